/- The law of MapsOfModules: the walk. -/
import Derived.Deep.RegionWith
import Derived.Test.YtahilkhnlobaoaaMg
import Derived.Test.YtahilkhnlobaoaaOwn
import Derived.Test.YtahilkhnlobaoaaLw1
import Derived.Test.YtahilkhnlobaoaaMd
import Derived.Test.YtahilkhnlobaoaaMas
namespace Go.Proofs.Ytahilkhnlobaoaa
open Go.RowKit

set_option maxRecDepth 100000 in
set_option maxHeartbeats 8000000 in
theorem lawMapsOfModules_any (A L L' : Option Addr) (t : List (List Int)) (m : Int) (us : List Int) (m' : Int) (vs : List Int) (c d d' : Nat) (w : World) (hR : Rws w w.heap.size A t) (hX : Ints w w.heap.size L us) (hY : Ints w w.heap.size L' vs)
    (hn : t.length ≤ maxLen) (hl : ∀ i, i < t.length → (row t i).length ≤ maxLen) (hm : us.length ≤ maxLen) (hm' : vs.length ≤ maxLen) :
    Calls Try.prog 18 #[.agg #[.slice A t.length c], .agg #[.int .i64 m, .slice L us.length d], .agg #[.int .i64 m', .slice L' vs.length d']] w fun e w' => e = .returned (.bool true) ∧ Below w.heap.size w w' := by
  have hb0 : Below w.heap.size w (((w.alloc (.cells #[.slice A t.length c] 43)).alloc (.cells #[.int .i64 m, .slice L us.length d] 59)).alloc (.cells #[.int .i64 m', .slice L' vs.length d'] 59)) := (((Below.refl _ _).alloc (Nat.le_refl _) _).alloc (by simp) _).alloc (by simp; omega) _
  have h0 := ((Has.new w 43 #[.slice A t.length c]).alloc (.cells #[.int .i64 m, .slice L us.length d] 59)).alloc (.cells #[.int .i64 m', .slice L' vs.length d'] 59)
  have h0' := (Has.newAt (w := w.alloc (.cells #[.slice A t.length c] 43)) (e := 59) (cs := #[.int .i64 m, .slice L us.length d]) (k := w.heap.size + 1) (by simp)).alloc (.cells #[.int .i64 m', .slice L' vs.length d'] 59)
  have h0'' := Has.newAt (w := (w.alloc (.cells #[.slice A t.length c] 43)).alloc (.cells #[.int .i64 m, .slice L us.length d] 59)) (e := 59) (cs := #[.int .i64 m', .slice L' vs.length d']) (k := w.heap.size + 1 + 1) (by simp)
  have hz0 : (((w.alloc (.cells #[.slice A t.length c] 43)).alloc (.cells #[.int .i64 m, .slice L us.length d] 59)).alloc (.cells #[.int .i64 m', .slice L' vs.length d'] 59)).heap.size = w.heap.size + 1 + 1 + 1 := by simp
  have HN := Lib.hid hn
  have HL := Lib.hid hl
  have HM := Lib.hid hm
  have HM' := Lib.hid hm'
  have HR := Lib.hid (hR.below hb0 (Nat.le_refl _))
  have HX := Lib.hid (hX.below hb0 (Nat.le_refl _))
  have HY := Lib.hid (hY.below hb0 (Nat.le_refl _))
  have c0 : (((w.alloc (.cells #[.slice A t.length c] 43)).alloc (.cells #[.int .i64 m, .slice L us.length d] 59)).alloc (.cells #[.int .i64 m', .slice L' vs.length d'] 59)).cell? ⟨w.heap.size, 0, none⟩ = some (.slice A t.length c) := h0.cell 0
  clear hn hl hm hm' hR hX hY
  go_enter Try.func18, Try.ntmps18
  go_wp2_with fail
  generalize (((w.alloc (.cells #[.slice A t.length c] 43)).alloc (.cells #[.int .i64 m, .slice L us.length d] 59)).alloc (.cells #[.int .i64 m', .slice L' vs.length d'] 59)) = W0 at *
  refine (szGroup_any A t c 1048576 W0 (HR.out.more (by omega)) HN.out HL.out (by omega) (by omega)).mono ?_
  rintro e W1 ⟨⟨r, rfl, hr⟩, hW1⟩
  have hb1 : Below W0.heap.size W0 W1 := by rw [← hW1]; exact (Below.refl _ _).alloc (Nat.le_refl _) _
  have c1' := (h0'.below hb1 h0'.lt).cell 0
  have c1'' := (h0'.below hb1 h0'.lt).cell 1
  have hz1 := hb1.size
  clear hW1 c0
  rcases hr with rfl | ⟨hr0, hr1, hs⟩
  · go_wp2
    go_ret
    exact ⟨rfl, hb0.trans (hb1.mono (by omega))⟩
  obtain ⟨hs1, hs2⟩ := small_of hs
  have HS2 := Lib.hid hs2
  clear hs hs2 HN HL
  have hneg : decide (r < 0) = false := by simp; omega
  go_wp2_with fail
  refine (szModule_any L m us.length d r W1 HM.out hr0 hr1).mono ?_
  rintro e W2 ⟨⟨r', rfl, hr'⟩, hW2⟩
  have hb2 : Below W1.heap.size W1 W2 := by rw [hW2]; exact (Below.refl _ _).alloc (Nat.le_refl _) _
  have hb02 := hb1.trans (hb2.mono hz1)
  have hz02 := hb02.size
  have hbw2 := hb0.trans (hb02.mono (by omega))
  clear hW2 hneg c1' c1''
  rcases hr' with rfl | ⟨hr0', hr1', hs'⟩
  · go_wp2
    go_ret
    exact ⟨rfl, hbw2⟩
  have hxs : us.length ≤ 1048576 := by omega
  clear hs' HM
  have hneg : decide (r' < 0) = false := by simp; omega
  have hr1r : r' ≤ 1048576 := by omega
  have c2v := (h0''.below hb02 h0''.lt).cell 0
  have c2w := (h0''.below hb02 h0''.lt).cell 1
  go_wp2_with fail
  refine (szModule_any L' m' vs.length d' r' W2 HM'.out hr0' hr1r).mono ?_
  rintro e W3 ⟨⟨r'', rfl, hr''⟩, hW3⟩
  have hb3 : Below W2.heap.size W2 W3 := by rw [hW3]; exact (Below.refl _ _).alloc (Nat.le_refl _) _
  have hb02 := hb02.trans (hb3.mono hz02)
  have hz02 := hb02.size
  have hbw2 := hb0.trans (hb02.mono (by omega))
  clear hW3 hneg c2v c2w hb3
  rcases hr'' with rfl | ⟨hr0'', hr1'', hs''⟩
  · go_wp2
    go_ret
    exact ⟨rfl, hbw2⟩
  have hys : vs.length ≤ 1048576 := by omega
  clear hs'' HM'
  have hneg : decide (r'' < 0) = false := by simp; omega
  obtain ⟨W2, rfl⟩ : ∃ W, W = W3 := ⟨_, rfl⟩
  have c2 := (h0.below hb02 h0.lt).cell 0
  have HR2 := Lib.hid (HR.out.below hb02 (by omega))
  have HX2 := Lib.hid (HX.out.below hb02 (by omega))
  have HY2 := Lib.hid (HY.out.below hb02 (by omega))
  have H2 := Lib.hid (h0.below hb02 h0.lt)
  have H2' := Lib.hid (h0'.below hb02 h0'.lt)
  have H2'' := Lib.hid (h0''.below hb02 h0''.lt)
  have hz2 : w.heap.size + 1 < W2.heap.size := by omega
  have hz2' : w.heap.size + 1 + 1 < W2.heap.size := by omega
  clear HR HX HY h0 h0' h0'' hb1 hb2 hb0 hb02
  -- w0, w1 := spec.MapsOfModules(toGroup(aG), toModule(aA), ..)
  have hS2 : ∀ W', Below W2.drew.heap.size W2.drew W' → W'.cell? ⟨w.heap.size, 0, none⟩ = some (.slice A t.length c) ∧ W'.cell? ⟨w.heap.size + 1, 0, none⟩ = some (.int .i64 m) ∧ W'.cell? ⟨w.heap.size + 1, 1, none⟩ = some (.slice L us.length d) ∧ W'.cell? ⟨w.heap.size + 1 + 1, 0, none⟩ = some (.int .i64 m') ∧ W'.cell? ⟨w.heap.size + 1 + 1, 1, none⟩ = some (.slice L' vs.length d') := fun W' hb =>
    ⟨(Has.below (w := W2.drew) H2.out hb (show _ < W2.heap.size by omega)).cell 0, (Has.below (w := W2.drew) H2'.out hb hz2).cell 0, (Has.below (w := W2.drew) H2'.out hb hz2).cell 1, (Has.below (w := W2.drew) H2''.out hb hz2').cell 0, (Has.below (w := W2.drew) H2''.out hb hz2').cell 1⟩
  have HSK := Lib.hid hS2
  have hle2 : w.heap.size ≤ W2.drew.heap.size := show w.heap.size ≤ W2.heap.size by omega
  have hR2 : Rws W2.drew w.heap.size A t := HR2.out
  have hX2 : Ints W2.drew w.heap.size L us := HX2.out
  have HR2d := Lib.hid hR2
  have HX2d := Lib.hid hX2
  have hY2 : Ints W2.drew w.heap.size L' vs := HY2.out
  have HY2d := Lib.hid hY2
  clear hS2 hR2 hX2 hY2
  go_wp2_with fail
  go_region_held3 (fun w' => w'.cell? ⟨w.heap.size, 0, none⟩ = some (.slice A t.length c) ∧ w'.cell? ⟨w.heap.size + 1, 0, none⟩ = some (.int .i64 m) ∧ w'.cell? ⟨w.heap.size + 1, 1, none⟩ = some (.slice L us.length d) ∧ w'.cell? ⟨w.heap.size + 1 + 1, 0, none⟩ = some (.int .i64 m') ∧ w'.cell? ⟨w.heap.size + 1 + 1, 1, none⟩ = some (.slice L' vs.length d'))
    (first
      | exact HSK.out _ (Below.refl _ _)
      | exact HSK.out _ hb3
      | exact HSK.out _ (hb3.trans (hb4.mono hb3.size))
      | exact HSK.out _ ((hb3.trans (hb4.mono hb3.size)).trans (hb4y.mono (Nat.le_trans hb3.size hb4.size)))
      | exact HSK.out _ (((hb3.trans (hb4.mono hb3.size)).trans (hb4y.mono (Nat.le_trans hb3.size hb4.size))).trans (hb5.mono (Nat.le_trans (Nat.le_trans hb3.size hb4.size) hb4y.size))))
    (first
      | (go_at_call 32; refine (toGroup_any A t c w.heap.size W2.drew HR2d.out hle2 hs1 HS2.out).mono ?_; rintro e W3 ⟨G3, rfl, hG3, hb3, hz3, hf3⟩)
      | (go_at_call_of 49 (Value.slice L us.length d); refine (toModule_any L m us d w.heap.size W3 (HX2d.out.below hb3 hle2) (Nat.le_trans hle2 hb3.size) hxs).mono ?_; rintro e W4 ⟨G4, rfl, hG4, hb4, hz4, hh4⟩)
      | (go_at_call_of 49 (Value.slice L' vs.length d'); refine (toModule_any L' m' vs d' w.heap.size W4 (HY2d.out.below (hb3.trans (hb4.mono hb3.size)) hle2) (Nat.le_trans hle2 (Nat.le_trans hb3.size hb4.size)) hys).mono ?_; rintro e W4y ⟨G4y, rfl, hG4y, hb4y, hz4y, hh4y⟩)
      | (go_at_call 72; refine (specMapsOfModules_any (some ⟨G3, 0, none⟩) (some ⟨G4, 0, none⟩) (some ⟨G4y, 0, none⟩) t m us m' vs t.length us.length vs.length (G3 + 1 + t.length) (G4 + 1) (G4y + 1) W4y ((hf3.below hb4 hz3).below hb4y (Nat.le_trans hz3 hb4.size)).rws (Ints.of_has (hh4.below hb4y hz4) rfl) (Ints.of_has hh4y rfl) (Nat.le_trans hz3 (Nat.le_trans hb4.size hb4y.size)) (Nat.succ_le_of_lt (Nat.lt_of_lt_of_le hz4 hb4y.size)) (Nat.succ_le_of_lt hz4y) hs1 HS2.out hxs hys).mono ?_; rintro e W5 ⟨A5, n5, rfl, hb5, ho5⟩))
  have hb26 : Below W2.heap.size W2 W5 := (Below.refl _ W2).drew.trans (((hb3.trans (hb4.mono hb3.size)).trans (hb4y.mono (Nat.le_trans hb3.size hb4.size))).trans (hb5.mono (Nat.le_trans (Nat.le_trans hb3.size hb4.size) hb4y.size)))
  have hz26 := hb26.size
  have HO5 := Lib.hid ho5
  have c6 := (H2.out.below hb26 H2.out.lt).cell 0
  clear hb3 hb4 hb4y hb5 hz3 hz4 hz4y hG3 hG4 hG4y hf3 hh4 hh4y hneg c2 HSK ho5
  go_wp2_with fail
  -- x0 := toGroup(aG); x1 := toModule(aA)
  refine (toGroup_any A t c w.heap.size W5 (HR2.out.below hb26 (by omega)) (by omega) hs1 HS2.out).mono ?_
  rintro e W7 ⟨G7, rfl, hG7, hb7, hz7, hf7⟩
  have HF7 := Lib.hid hf7
  have hb27 := hb26.trans (hb7.mono hz26)
  have hz57 := hb7.size
  have HB57 := Lib.hid hb7
  have hb8 : Below W7.heap.size W7 (W7.alloc (.cells #[.slice (some ⟨G7, 0, none⟩) t.length t.length] 26)) := (Below.refl _ _).alloc (Nat.le_refl _) _
  have x8 := Has.new W7 26 #[.slice (some ⟨G7, 0, none⟩) t.length t.length]
  have hz8 : (W7.alloc (.cells #[.slice (some ⟨G7, 0, none⟩) t.length t.length] 26)).heap.size = W7.heap.size + 1 := by simp
  have HF8 := Lib.hid (HF7.out.below hb8 hz7)
  have hb28 := hb27.trans (hb8.mono hb27.size)
  have HB78 := Lib.hid hb8
  have hz28 := hb28.size
  have c8' := (H2'.out.below hb28 H2'.out.lt).cell 0
  have c8'' := (H2'.out.below hb28 H2'.out.lt).cell 1
  clear hf7 c6 hb7 hb8 HF7 hb26
  go_wp2_with fail
  generalize (W7.alloc (.cells #[.slice (some ⟨G7, 0, none⟩) t.length t.length] 26)) = W8 at *
  refine (toModule_any L m us d w.heap.size W8 (HX2.out.below hb28 (by omega)) (by omega) hxs).mono ?_
  rintro e W9 ⟨G9, rfl, hG9, hb9, hz9, hh9⟩
  have HF9 := Lib.hid hh9
  have hb10 : Below W9.heap.size W9 (W9.alloc (.cells #[.int .i64 m, .slice (some ⟨G9, 0, none⟩) us.length us.length] 29)) := (Below.refl _ _).alloc (Nat.le_refl _) _
  have y10 := Has.new W9 29 #[.int .i64 m, .slice (some ⟨G9, 0, none⟩) us.length us.length]
  have hz10 : (W9.alloc (.cells #[.int .i64 m, .slice (some ⟨G9, 0, none⟩) us.length us.length] 29)).heap.size = W9.heap.size + 1 := by simp
  have hz89 := hb9.size
  have HF10 := Lib.hid (HF9.out.below hb10 hz9)
  have HE10 := Lib.hid ((HF8.out.below hb9 (by omega)).below hb10 (by omega))
  have x10 := (x8.below hb9 x8.lt).below hb10 (by omega)
  have hb2a := hb28.trans ((hb9.trans (hb10.mono hz89)).mono hz28)
  have hb5a : Below W5.heap.size W5 (W9.alloc (.cells #[.int .i64 m, .slice (some ⟨G9, 0, none⟩) us.length us.length] 29)) := (HB57.out.trans ((HB78.out).mono hz57)).trans ((hb9.trans (hb10.mono hz89)).mono (by omega))
  have HB5A := Lib.hid hb5a
  have hz2a := hb2a.size
  have c9v := (H2''.out.below hb2a H2''.out.lt).cell 0
  have c9w := (H2''.out.below hb2a H2''.out.lt).cell 1
  clear hh9 c8' c8'' HF9 HF8 hb10 hb9 x8 hb28 hb5a
  go_wp2_with fail
  generalize (W9.alloc (.cells #[.int .i64 m, .slice (some ⟨G9, 0, none⟩) us.length us.length] 29)) = Wa at *
  refine (toModule_any L' m' vs d' w.heap.size Wa (HY2.out.below hb2a (by omega)) (by omega) hys).mono ?_
  rintro e Wy ⟨Gy, rfl, hGy, hby, hzy, hhy⟩
  have hb11 : Below Wy.heap.size Wy (Wy.alloc (.cells #[.int .i64 m', .slice (some ⟨Gy, 0, none⟩) vs.length vs.length] 29)) := (Below.refl _ _).alloc (Nat.le_refl _) _
  have z11 := Has.new Wy 29 #[.int .i64 m', .slice (some ⟨Gy, 0, none⟩) vs.length vs.length]
  have hz11 : (Wy.alloc (.cells #[.int .i64 m', .slice (some ⟨Gy, 0, none⟩) vs.length vs.length] 29)).heap.size = Wy.heap.size + 1 := by simp
  have hzay := hby.size
  have hbab := hby.trans (hb11.mono hzay)
  have HGY11 := Lib.hid (hhy.below hb11 hzy)
  have HF10 := Lib.hid (HF10.out.below hbab (by omega))
  have HE10 := Lib.hid (HE10.out.below hbab (by omega))
  have x10 := x10.below hbab (by omega)
  have y10 := y10.below hbab (by omega)
  have HB5A := Lib.hid (HB5A.out.trans (hbab.mono HB5A.out.size))
  have hb2a := hb2a.trans (hbab.mono hz2a)
  have hz2a := hb2a.size
  have cx := x10.cell 0
  have cy := y10.cell 0
  have cy' := y10.cell 1
  have cz := z11.cell 0
  have cz' := z11.cell 1
  clear hby hb11 hhy hbab c9v c9w
  go_wp2_with fail
  generalize (Wy.alloc (.cells #[.int .i64 m', .slice (some ⟨Gy, 0, none⟩) vs.length vs.length] 29)) = Wb at *
  refine (implMapsOfModules_any (some ⟨G7, 0, none⟩) (some ⟨G9, 0, none⟩) (some ⟨Gy, 0, none⟩) t m us m' vs t.length us.length vs.length (G7 + 1 + t.length) (G9 + 1) (Gy + 1) Wb HE10.out.rws (Ints.of_has HF10.out rfl) (Ints.of_has HGY11.out rfl) (by omega) (by omega) (by omega) hs1 HS2.out hxs hys).mono ?_
  rintro e Wc ⟨Ac, nc, rfl, hbc, hoc⟩
  have HOC := Lib.hid hoc
  have HFc := Lib.hid (HF10.out.below hbc (by omega))
  have HEc := Lib.hid (HE10.out.below hbc (by omega))
  have xc := x10.below hbc x10.lt
  have yc := y10.below hbc y10.lt
  have zc := z11.below hbc z11.lt
  have HGYc := Lib.hid (HGY11.out.below hbc (by omega))
  have hb2c := hb2a.trans (hbc.mono hz2a)
  have hz2c := hb2c.size
  have hzbc := hbc.size
  have hz5b := HB5A.out.size
  have HB5C := Lib.hid (HB5A.out.trans (hbc.mono hz5b))
  have hy8 := mapsR_small t m us m' vs
  clear cx cy cy' cz cz' HF10 HE10 HGY11 x10 y10 z11 hb2a hbc hoc
  generalize hyy : mapsR t m us m' vs = ys at *
  generalize hqs : gm2C t m us m' vs = q at *
  have HYS := Lib.hid hyy
  have HQS := Lib.hid hqs
  clear hyy hqs
  have heq : decide (ys = ys) = true := by simp
  have hqq : (q != q) = false := by simp
  have HY5 := Lib.hid (HO5.out.below HB5C.out (Nat.le_refl _))
  go_wp2_with fail
  -- eqInt64S(g0, w0)
  refine (eqInt64S_any Ac A5 ys ys nc n5 _ _ Wc HOC.out.ints HY5.out.ints (by omega) (by omega)).mono ?_
  rintro e Wd ⟨rfl, hdd⟩
  have hbd : Below Wc.heap.size Wc Wd := hdd.below _
  have hzd := hdd.size
  have HFd := Lib.hid (HFc.out.below hbd (by omega))
  have HEd := Lib.hid (HEc.out.below hbd (by omega))
  have xd := xc.below hbd xc.lt
  have yd := yc.below hbd yc.lt
  have zd := zc.below hbd zc.lt
  have HGYd := Lib.hid (HGYc.out.below hbd (by omega))
  have hb2d := hb2c.trans (hbd.mono hz2c)
  have HB5D := Lib.hid (HB5C.out.trans (hbd.mono (by omega)))
  have HOD := Lib.hid (HOC.out.below hbd (Nat.le_refl _))
  clear HFc HEc HGYc xc yc zc hb2c hdd HOC HY5
  have hle : w.heap.size ≤ Wd.drew.heap.size := show w.heap.size ≤ Wd.heap.size by omega
  have hRc' := HR2.out.below hb2d (show w.heap.size ≤ W2.heap.size by omega)
  have hRc : Rws Wd.drew w.heap.size A t := hRc'
  have HRc := Lib.hid hRc
  have hSc : ∀ W', Below Wd.drew.heap.size Wd.drew W' → W'.cell? ⟨w.heap.size, 0, none⟩ = some (.slice A t.length c) ∧ W'.cell? ⟨W7.heap.size, 0, none⟩ = some (.slice (some ⟨G7, 0, none⟩) t.length t.length) := fun W' hb =>
    ⟨(Has.below (w := Wd.drew) (H2.out.below hb2d.drew H2.out.lt) hb (show _ < Wd.heap.size by omega)).cell 0, (Has.below (w := Wd.drew) xd hb xd.lt).cell 0⟩
  have HSC := Lib.hid hSc
  have hzc7 : G7 + 1 + t.length ≤ Wd.heap.size := by omega
  have hzc9 : G9 + 1 ≤ Wd.heap.size := by omega
  clear hRc hRc' hSc
  go_wp2_with fail
  go_region_held3 (fun w' => w'.cell? ⟨w.heap.size, 0, none⟩ = some (.slice A t.length c) ∧ w'.cell? ⟨W7.heap.size, 0, none⟩ = some (.slice (some ⟨G7, 0, none⟩) t.length t.length))
    (first
      | exact HSC.out _ (Below.refl _ _)
      | exact HSC.out _ hbe
      | exact HSC.out _ (hbe.trans (hbf.mono hbe.size)))
    (first
      | (go_at_call 32; refine (toGroup_any A t c w.heap.size Wd.drew HRc.out hle hs1 HS2.out).mono ?_; rintro e We ⟨Ge, rfl, hGe, hbe, hze, hfe⟩)
      | (go_at_call 35; refine (eqGroup_any (some ⟨G7, 0, none⟩) (some ⟨Ge, 0, none⟩) t t t.length t.length (G7 + 1 + t.length) (Ge + 1 + t.length) _ (HEd.out.drew.below hbe hzc7).rws hfe.rws (Nat.le_trans hzc7 hbe.size) hze hs1 hs1 HS2.out HS2.out).mono ?_; rintro e Wf ⟨rfl, hbf⟩))
  have hbdf : Below Wd.heap.size Wd Wf := (Below.refl _ Wd).drew.trans (hbe.trans (hbf.mono hbe.size))
  have hb2f := hb2d.trans (hbdf.mono (by omega))
  have hzdf := hbdf.size
  have HFf := Lib.hid (HFd.out.below hbdf hzc9)
  have HEf := Lib.hid (HEd.out.below hbdf hzc7)
  have xf := xd.below hbdf xd.lt
  have yf := yd.below hbdf yd.lt
  have zf := zd.below hbdf zd.lt
  have hzcy : Gy + 1 ≤ Wd.heap.size := by omega
  have HGYf := Lib.hid (HGYd.out.below hbdf hzcy)
  have HB5F := Lib.hid (HB5D.out.trans (hbdf.mono (by have := HB5D.out.size; omega)))
  have HOF := Lib.hid (HOD.out.below hbdf (Nat.le_refl _))
  have hle2 : w.heap.size ≤ Wf.drew.heap.size := show w.heap.size ≤ Wf.heap.size by omega
  have hXe' := HX2.out.below hb2f (show w.heap.size ≤ W2.heap.size by omega)
  have hXe : Ints Wf.drew w.heap.size L us := hXe'
  have HXe := Lib.hid hXe
  have hSe : ∀ W', Below Wf.drew.heap.size Wf.drew W' → W'.cell? ⟨w.heap.size + 1, 0, none⟩ = some (.int .i64 m) ∧ W'.cell? ⟨w.heap.size + 1, 1, none⟩ = some (.slice L us.length d) ∧ W'.cell? ⟨W9.heap.size, 0, none⟩ = some (.int .i64 m) ∧ W'.cell? ⟨W9.heap.size, 1, none⟩ = some (.slice (some ⟨G9, 0, none⟩) us.length us.length) := fun W' hb =>
    ⟨(Has.below (w := Wf.drew) (H2'.out.below hb2f.drew H2'.out.lt) hb (show _ < Wf.heap.size by omega)).cell 0, (Has.below (w := Wf.drew) (H2'.out.below hb2f.drew H2'.out.lt) hb (show _ < Wf.heap.size by omega)).cell 1, (Has.below (w := Wf.drew) yf hb yf.lt).cell 0, (Has.below (w := Wf.drew) yf hb yf.lt).cell 1⟩
  have HSE := Lib.hid hSe
  have hze9 : G9 + 1 ≤ Wf.heap.size := by omega
  have hIe : Ints Wf.drew (G9 + 1) (some ⟨G9, 0, none⟩) us := Ints.of_has (w := Wf.drew) HFf.out rfl
  have HIe := Lib.hid hIe
  clear hXe hXe' hSe HRc HSC hbe hbf hfe HEd xd yd zd HFd HGYd hIe HOD
  go_wp2_with fail
  go_region_held3 (fun w' => w'.cell? ⟨w.heap.size + 1, 0, none⟩ = some (.int .i64 m) ∧ w'.cell? ⟨w.heap.size + 1, 1, none⟩ = some (.slice L us.length d) ∧ w'.cell? ⟨W9.heap.size, 0, none⟩ = some (.int .i64 m) ∧ w'.cell? ⟨W9.heap.size, 1, none⟩ = some (.slice (some ⟨G9, 0, none⟩) us.length us.length))
    (first
      | exact HSE.out _ (Below.refl _ _)
      | exact HSE.out _ hbg
      | exact HSE.out _ (hbg.trans (hbh.mono hbg.size)))
    (first
      | (go_at_call_of 49 (Value.slice L us.length d); refine (toModule_any L m us d w.heap.size Wf.drew HXe.out hle2 hxs).mono ?_; rintro e Wg ⟨Gg, rfl, hGg, hbg, hzg, hfg⟩)
      | (go_at_call 50; refine (eqModule_same (some ⟨G9, 0, none⟩) (some ⟨Gg, 0, none⟩) m us us.length us.length (G9 + 1) (Gg + 1) _ (HIe.out.below hbg hze9) (Ints.of_has hfg rfl) (Nat.le_trans hze9 hbg.size) (Nat.succ_le_of_lt hzg) hxs).mono ?_; rintro e Wh ⟨rfl, hbh⟩))
  have hbfh : Below Wf.heap.size Wf Wh := (Below.refl _ Wf).drew.trans (hbg.trans (hbh.mono hbg.size))
  have hb2h := hb2f.trans (hbfh.mono (by omega))
  have hzfh := hbfh.size
  have HFh := Lib.hid (HFf.out.below hbfh (by omega))
  have HEh := Lib.hid (HEf.out.below hbfh (by omega))
  have xh := xf.below hbfh xf.lt
  have yh := yf.below hbfh yf.lt
  have zh := zf.below hbfh zf.lt
  have HGYh := Lib.hid (HGYf.out.below hbfh (by omega))
  have HB5H := Lib.hid (HB5F.out.trans (hbfh.mono (by have := HB5F.out.size; omega)))
  have HOH := Lib.hid (HOF.out.below hbfh (Nat.le_refl _))
  have HFq := HFh
  have hleq : w.heap.size ≤ Wh.drew.heap.size := show w.heap.size ≤ Wh.heap.size by omega
  have hYq' := HY2.out.below hb2h (show w.heap.size ≤ W2.heap.size by omega)
  have hYq : Ints Wh.drew w.heap.size L' vs := hYq'
  have HYq := Lib.hid hYq
  have hSq : ∀ W', Below Wh.drew.heap.size Wh.drew W' → W'.cell? ⟨w.heap.size + 1 + 1, 0, none⟩ = some (.int .i64 m') ∧ W'.cell? ⟨w.heap.size + 1 + 1, 1, none⟩ = some (.slice L' vs.length d') ∧ W'.cell? ⟨Wy.heap.size, 0, none⟩ = some (.int .i64 m') ∧ W'.cell? ⟨Wy.heap.size, 1, none⟩ = some (.slice (some ⟨Gy, 0, none⟩) vs.length vs.length) := fun W' hb =>
    ⟨(Has.below (w := Wh.drew) (H2''.out.below hb2h.drew H2''.out.lt) hb (show _ < Wh.heap.size by omega)).cell 0, (Has.below (w := Wh.drew) (H2''.out.below hb2h.drew H2''.out.lt) hb (show _ < Wh.heap.size by omega)).cell 1, (Has.below (w := Wh.drew) zh hb zh.lt).cell 0, (Has.below (w := Wh.drew) zh hb zh.lt).cell 1⟩
  have HSQ := Lib.hid hSq
  have hzey : Gy + 1 ≤ Wh.heap.size := by omega
  have hIq : Ints Wh.drew (Gy + 1) (some ⟨Gy, 0, none⟩) vs := Ints.of_has (w := Wh.drew) HGYh.out rfl
  have HIq := Lib.hid hIq
  clear hYq hYq' hSq hIq HFq HSE HXe hbg hbh hfg HFf HGYf HIe xf yf zf HEf HOF
  go_wp2_with fail
  go_region_held3 (fun w' => w'.cell? ⟨w.heap.size + 1 + 1, 0, none⟩ = some (.int .i64 m') ∧ w'.cell? ⟨w.heap.size + 1 + 1, 1, none⟩ = some (.slice L' vs.length d') ∧ w'.cell? ⟨Wy.heap.size, 0, none⟩ = some (.int .i64 m') ∧ w'.cell? ⟨Wy.heap.size, 1, none⟩ = some (.slice (some ⟨Gy, 0, none⟩) vs.length vs.length))
    (first
      | exact HSQ.out _ (Below.refl _ _)
      | exact HSQ.out _ hbq
      | exact HSQ.out _ (hbq.trans (hbr.mono hbq.size)))
    (first
      | (go_at_call_of 49 (Value.slice L' vs.length d'); refine (toModule_any L' m' vs d' w.heap.size Wh.drew HYq.out hleq hys).mono ?_; rintro e Wq ⟨Gq, rfl, hGq, hbq, hzq, hfq⟩)
      | (go_at_call 50; refine (eqModule_same (some ⟨Gy, 0, none⟩) (some ⟨Gq, 0, none⟩) m' vs vs.length vs.length (Gy + 1) (Gq + 1) _ (HIq.out.below hbq hzey) (Ints.of_has hfq rfl) (Nat.le_trans hzey hbq.size) (Nat.succ_le_of_lt hzq) hys).mono ?_; rintro e Wr ⟨rfl, hbr⟩))
  have hbhr : Below Wh.heap.size Wh Wr := (Below.refl _ Wh).drew.trans (hbq.trans (hbr.mono hbq.size))
  have hzhr := hbhr.size
  have HGYh := Lib.hid (HGYh.out.below hbhr (by omega))
  have HFh := Lib.hid (HFh.out.below hbhr (by omega))
  have HEh := Lib.hid (HEh.out.below hbhr (by omega))
  have xh := xh.below hbhr xh.lt
  have yh := yh.below hbhr yh.lt
  have zh := zh.below hbhr zh.lt
  have HB5H := Lib.hid (HB5H.out.trans (hbhr.mono HB5H.out.size))
  have HOH := Lib.hid (HOH.out.below hbhr (Nat.le_refl _))
  have hb2h := hb2h.trans (hbhr.mono hb2h.size)
  clear HSQ HYq hbq hbr hfq HIq
  obtain ⟨Wh, rfl⟩ : ∃ W, W = Wr := ⟨_, rfl⟩
  have ZH := Lib.hid zh
  have ch0 := xh.cell 0
  have YH := Lib.hid yh
  go_wp2_with fail
  -- k = markGroup(x0, k)
  refine (markGroupB_any G7 t Wh _ _ HEh.out (by omega) hs1 HS2.out).mono ?_
  rintro e Wi ⟨k, rfl, hk, hbi, hmi⟩
  have hzi := hbi.size
  have HMI := Lib.hid hmi
  have HFi : Hid (Has Wi G9 2 (tab us.length fun j => .int .i64 (nth us j))) := (HMI.out G9 (by omega) HFh.out.lt).trans HFh.out
  have hyi : Has Wi W9.heap.size 29 #[.int .i64 m, .slice (some ⟨G9, 0, none⟩) us.length us.length] := (HMI.out W9.heap.size (by omega) YH.out.lt).trans YH.out
  have HOI := Lib.hid (HOH.out.same hzi (fun b hl hlt => HMI.out b (by omega) hlt))
  have B2i := hb2h.trans (hbi.mono (by omega))
  have HB5I := Lib.hid (HB5H.out.trans (hbi.mono (by omega)))
  have ci0 := hyi.cell 0
  have ci1 := hyi.cell 1
  have HGi : Hid (Has Wi Gy 2 (tab vs.length fun j => .int .i64 (nth vs j))) := (HMI.out Gy (by omega) HGYh.out.lt).trans HGYh.out
  have hzi' : Has Wi Wy.heap.size 29 #[.int .i64 m', .slice (some ⟨Gy, 0, none⟩) vs.length vs.length] := (HMI.out Wy.heap.size (by omega) ZH.out.lt).trans ZH.out
  have HZI := Lib.hid hzi'
  clear hmi ch0 hbi HMI hyi hzi' HFh HEh HGYh xh YH yh zh ZH
  go_wp2_with fail
  -- k = markModule(x1, k)
  refine (markModule_any G9 k m us.length us Wi _ HFi.out hxs (by omega)).mono ?_
  rintro e Wj ⟨rfl, hbj, hzj, hmj⟩
  have HOJ := Lib.hid (HOI.out.same hzj (fun b hl hlt => hmj b (by omega) hlt))
  have B2j := B2i.trans (hbj.mono (by omega))
  have HB5J := Lib.hid (HB5I.out.trans (hbj.mono (by omega)))
  have HY5J := Lib.hid (HO5.out.below HB5J.out (Nat.le_refl _))
  have HGj : Hid (Has Wj Gy 2 (tab vs.length fun j => .int .i64 (nth vs j))) := (hmj Gy (by omega) HGi.out.lt).trans HGi.out
  have hzj' : Has Wj Wy.heap.size 29 #[.int .i64 m', .slice (some ⟨Gy, 0, none⟩) vs.length vs.length] := (hmj Wy.heap.size (by omega) HZI.out.lt).trans HZI.out
  have cj0 := hzj'.cell 0
  have cj1 := hzj'.cell 1
  have hkj : k + us.length ≤ 2199023255552 := by omega
  clear HGi HZI hzj' hmj hbj ci0 ci1 HOI HY5J
  obtain ⟨kj, hkjj⟩ : ∃ kj, k + us.length = kj := ⟨_, rfl⟩
  rw [hkjj] at hkj
  rw [hkjj]
  go_wp2_with fail
  refine (markModule_any Gy kj m' vs.length vs Wj _ HGj.out hys hkj).mono ?_
  rintro e Wz ⟨rfl, hbz, hzz, hmz⟩
  have HOJ := Lib.hid (HOJ.out.same hzz (fun b hl hlt => hmz b (by omega) hlt))
  have B2j := B2j.trans (hbz.mono (by omega))
  have HB5J := Lib.hid (HB5J.out.trans (hbz.mono (by omega)))
  have HY5J := Lib.hid (HO5.out.below HB5J.out (Nat.le_refl _))
  obtain ⟨Wj, rfl⟩ : ∃ W, W = Wz := ⟨_, rfl⟩
  obtain ⟨kk, hkk⟩ : ∃ kk : Int, ((kj + vs.length : Nat) : Int) = kk := ⟨_, rfl⟩
  have hkd : decide (kk < 0) = false := by simp only [decide_eq_false_iff_not]; omega
  rw [hkk]
  clear hkk hmz hbz cj0 cj1 HGj
  go_wp2_with fail
  refine (eqInt64S_any Ac A5 ys ys nc n5 _ _ Wj HOJ.out.ints HY5J.out.ints (by omega) (by omega)).mono ?_
  rintro e Wk ⟨rfl, hdk⟩
  have hbk : Below Wj.heap.size Wj Wk := hdk.below _
  have hzk := hdk.size
  have XK := HOJ.out.below hbk (Nat.le_refl _)
  obtain ⟨b6, o6, e6, l6, t6, v6⟩ := XK
  have V6 := Lib.hid v6
  have E6 := Lib.hid e6
  have hzB := B2j.size
  have B2k := B2j.trans (hbk.mono hzB)
  have hz5J := HB5J.out.size
  have HB5K := Lib.hid (HB5J.out.trans (hbk.mono hz5J))
  clear hkd hdk v6 e6 HY5J HOJ
  go_wp2_with fail
  refine (markInt64S_any Ac b6 o6 ys.length nc 1 Wk E6.out (fun j hj => ⟨⟨_, (V6.out j hj).1⟩, (V6.out j hj).2⟩) (by omega) (by omega)).mono ?_
  rintro e Wl ⟨rfl, hul, hml⟩
  have hbl : Below b6 Wk Wl := hul.below fun b o h => by have : b = b6 := h.1; omega
  have hzl : Wl.heap.size = Wk.heap.size := hul.size
  have hB5K := HB5K.out.size
  have B2l := B2k.trans (hbl.mono (by omega))
  have HB5L := Lib.hid (HB5K.out.trans (hbl.mono (by omega)))
  have ML := Lib.hid hml
  clear hul hml
  obtain ⟨mm, hmm⟩ : ∃ mm : Int, ((1 + ys.length : Nat) : Int) = mm := ⟨_, rfl⟩
  have h120 : decide (mm < 0) = false := by simp only [decide_eq_false_iff_not]; omega
  have h121 : ¬ mm < 0 := by omega
  have h122 : (mm != mm) = false := by simp
  have HMM := Lib.hid hmm
  rw [hmm]
  clear hmm
  go_wp2_with fail
  refine (heldInt64S_any Ac b6 o6 ys.length nc 1 Wl E6.out ML.out (by omega) (by omega)).mono ?_
  rintro e Wl' ⟨rfl, rfl⟩
  rw [HMM.out]
  -- h0, h1 := impl.MapsOfModules(toGroup(aG), toModule(aA))
  have hlel : w.heap.size ≤ Wl.drew.heap.size := show w.heap.size ≤ Wl.heap.size by have := B2l.size; omega
  have hRl' := HR2.out.below B2l (show w.heap.size ≤ W2.heap.size by omega)
  have hRl : Rws Wl.drew w.heap.size A t := hRl'
  have hXl' := HX2.out.below B2l (show w.heap.size ≤ W2.heap.size by omega)
  have hXl : Ints Wl.drew w.heap.size L us := hXl'
  have HRl := Lib.hid hRl
  have HXl := Lib.hid hXl
  have hYl' := HY2.out.below B2l (show w.heap.size ≤ W2.heap.size by omega)
  have hYl : Ints Wl.drew w.heap.size L' vs := hYl'
  have HYl := Lib.hid hYl
  have hSl : ∀ W', Below Wl.drew.heap.size Wl.drew W' → W'.cell? ⟨w.heap.size, 0, none⟩ = some (.slice A t.length c) ∧ W'.cell? ⟨w.heap.size + 1, 0, none⟩ = some (.int .i64 m) ∧ W'.cell? ⟨w.heap.size + 1, 1, none⟩ = some (.slice L us.length d) ∧ W'.cell? ⟨w.heap.size + 1 + 1, 0, none⟩ = some (.int .i64 m') ∧ W'.cell? ⟨w.heap.size + 1 + 1, 1, none⟩ = some (.slice L' vs.length d') := fun W' hb =>
    ⟨(Has.below (w := Wl.drew) (H2.out.below B2l.drew H2.out.lt) hb (show _ < Wl.heap.size by have := B2l.size; omega)).cell 0, (Has.below (w := Wl.drew) (H2'.out.below B2l.drew H2'.out.lt) hb (show _ < Wl.heap.size by have := B2l.size; omega)).cell 0, (Has.below (w := Wl.drew) (H2'.out.below B2l.drew H2'.out.lt) hb (show _ < Wl.heap.size by have := B2l.size; omega)).cell 1, (Has.below (w := Wl.drew) (H2''.out.below B2l.drew H2''.out.lt) hb (show _ < Wl.heap.size by have := B2l.size; omega)).cell 0, (Has.below (w := Wl.drew) (H2''.out.below B2l.drew H2''.out.lt) hb (show _ < Wl.heap.size by have := B2l.size; omega)).cell 1⟩
  have HSL := Lib.hid hSl
  clear hRl hRl' hXl hXl' hYl hYl' hSl
  go_wp2_with fail
  go_region_held3 (fun w' => w'.cell? ⟨w.heap.size, 0, none⟩ = some (.slice A t.length c) ∧ w'.cell? ⟨w.heap.size + 1, 0, none⟩ = some (.int .i64 m) ∧ w'.cell? ⟨w.heap.size + 1, 1, none⟩ = some (.slice L us.length d) ∧ w'.cell? ⟨w.heap.size + 1 + 1, 0, none⟩ = some (.int .i64 m') ∧ w'.cell? ⟨w.heap.size + 1 + 1, 1, none⟩ = some (.slice L' vs.length d'))
    (first
      | exact HSL.out _ (Below.refl _ _)
      | exact HSL.out _ hbm
      | exact HSL.out _ (hbm.trans (hbn.mono hbm.size))
      | exact HSL.out _ ((hbm.trans (hbn.mono hbm.size)).trans (hbny.mono (Nat.le_trans hbm.size hbn.size)))
      | exact HSL.out _ (((hbm.trans (hbn.mono hbm.size)).trans (hbny.mono (Nat.le_trans hbm.size hbn.size))).trans (hbo.mono (Nat.le_trans (Nat.le_trans hbm.size hbn.size) hbny.size))))
    (first
      | (go_at_call 32; refine (toGroup_any A t c w.heap.size Wl.drew HRl.out hlel hs1 HS2.out).mono ?_; rintro e Wm ⟨Gm, rfl, hGm, hbm, hzm, hfm⟩)
      | (go_at_call_of 49 (Value.slice L us.length d); refine (toModule_any L m us d w.heap.size Wm (HXl.out.below hbm hlel) (Nat.le_trans hlel hbm.size) hxs).mono ?_; rintro e Wn ⟨Gn, rfl, hGn, hbn, hzn, hhn⟩)
      | (go_at_call_of 49 (Value.slice L' vs.length d'); refine (toModule_any L' m' vs d' w.heap.size Wn (HYl.out.below (hbm.trans (hbn.mono hbm.size)) hlel) (Nat.le_trans hlel (Nat.le_trans hbm.size hbn.size)) hys).mono ?_; rintro e Wny ⟨Gny, rfl, hGny, hbny, hzny, hhny⟩)
      | (go_at_call 28; refine (implMapsOfModulesG HYS.out HQS.out (some ⟨Gm, 0, none⟩) (some ⟨Gn, 0, none⟩) (some ⟨Gny, 0, none⟩) t.length us.length vs.length (Gm + 1 + t.length) (Gn + 1) (Gny + 1) Wny ((hfm.below hbn hzm).below hbny (Nat.le_trans hzm hbn.size)).rws (Ints.of_has (hhn.below hbny hzn) rfl) (Ints.of_has hhny rfl) (Nat.le_trans hzm (Nat.le_trans hbn.size hbny.size)) (Nat.succ_le_of_lt (Nat.lt_of_lt_of_le hzn hbny.size)) (Nat.succ_le_of_lt hzny) hs1 HS2.out hxs hys).mono ?_; rintro e Wo ⟨Ao, no, rfl, hbo, hoo⟩))
  have hblo : Below Wl.heap.size Wl Wo := (Below.refl _ Wl).drew.trans (((hbm.trans (hbn.mono hbm.size)).trans (hbny.mono (Nat.le_trans hbm.size hbn.size))).trans (hbo.mono (Nat.le_trans (Nat.le_trans hbm.size hbn.size) hbny.size)))
  have hzlo := hblo.size
  have B2o := B2l.trans (hblo.mono B2l.size)
  have HB5O := Lib.hid (HB5L.out.trans (hblo.mono HB5L.out.size))
  have HOO := Lib.hid hoo
  have HY5O := Lib.hid (HO5.out.below HB5O.out (Nat.le_refl _))
  have MO := Lib.hid (ML.out.below hblo (by omega))
  clear hbm hbn hbny hbo hfm hhn hhny hoo HSL HRl HXl HYl
  go_wp2_with fail
  refine (eqInt64S_any Ao A5 ys ys no n5 _ _ Wo HOO.out.ints HY5O.out.ints (by omega) (by omega)).mono ?_
  rintro e Wp ⟨rfl, hdp⟩
  have hbp : Below Wo.heap.size Wo Wp := hdp.below _
  have MP := Lib.hid (MO.out.below hbp (by omega))
  clear hdp
  go_wp2_with fail
  refine (heldInt64S_any Ac b6 o6 ys.length nc 1 Wp E6.out MP.out (by omega) (by omega)).mono ?_
  rintro e Wp' ⟨rfl, rfl⟩
  rw [HMM.out]
  go_wp2_with fail
  go_ret
  exact ⟨rfl, hbw2.trans ((B2o.trans (hbp.mono B2o.size)).mono hbw2.size)⟩

end Go.Proofs.Ytahilkhnlobaoaa
