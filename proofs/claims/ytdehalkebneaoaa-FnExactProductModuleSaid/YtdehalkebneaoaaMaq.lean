/- MapsOfModules. -/
import Derived.Deep.RegionHeld3
import Derived.Test.YtdehalkebneaoaaMap
namespace Go.Proofs.Ytdehalkebneaoaa
open Go.RowKit

/-- The code for a group and two modules. -/
noncomputable def gm2B (t : List (List Int)) (m : Int) (us : List Int) (m' : Int) (vs : List Int) : Bool := gmB t m us && gmB t m' vs
noncomputable def gm2C (t : List (List Int)) (m : Int) (us : List Int) (m' : Int) (vs : List Int) : Int := if gm2B t m us m' vs = true then 0 else 1
theorem gm2C_no {t : List (List Int)} {m m' : Int} {us vs : List Int} (h : gm2B t m us m' vs = false) : gm2C t m us m' vs = 1 := by rw [gm2C, h]; rfl
theorem gm2C_yes {t : List (List Int)} {m m' : Int} {us vs : List Int} (h : gm2B t m us m' vs = true) : gm2C t m us m' vs = 0 := by rw [gm2C, h]; rfl

set_option maxRecDepth 100000 in
set_option maxHeartbeats 2000000 in
theorem l02Code2_any (A L L' : Option Addr) (t : List (List Int)) (m m' : Int) (us vs : List Int) (c c' c'' k B B' B'' : Nat) (w : World) (hR : Rws w B A t) (hX : Ints w B' L us) (hY : Ints w B'' L' vs) (hK : Has w k 36 #[.int .i64 m, .slice L us.length c', .int .i64 m', .slice L' vs.length c'']) (hB : B ≤ w.heap.size) (hB' : B' ≤ w.heap.size) (hB'' : B'' ≤ w.heap.size)
    (hn : t.length ≤ 1048576) (hl : ∀ i, i < t.length → (row t i).length ≤ 1048576) (hx : us.length ≤ 1048576) (hy : vs.length ≤ 1048576) :
    Calls Try.prog 76 #[.agg #[.slice A t.length c], .slice (some ⟨k, 0, none⟩) 2 2] w fun e w' => e = .returned (.int .i64 (gm2C t m us m' vs)) ∧ Below w.heap.size w w' := by
  have hb0 : Below w.heap.size w (w.alloc (.cells #[.slice A t.length c] 29)) := (Below.refl _ _).alloc (Nat.le_refl _) _
  have h0 := Has.new w 29 #[.slice A t.length c]
  have hk0 := hK.alloc (.cells #[.slice A t.length c] 29)
  have hz0 := hb0.size
  have HR := Lib.hid (hR.below hb0 hB)
  have HX := Lib.hid (hX.below hb0 hB')
  have HY := Lib.hid (hY.below hb0 hB'')
  have c0 : (w.alloc (.cells #[.slice A t.length c] 29)).cell? ⟨w.heap.size, 0, none⟩ = some (.slice A t.length c) := h0.cell 0
  have hcon := l01Is_any A t c B _ HR.out (by omega) hn hl
  clear hR hX hY hl hK
  cases hg : grpB t with
  | false =>
    rw [hg] at hcon
    have HCON := Lib.hid hcon
    have HP := Lib.hid (gm2C_no (t := t) (m := m) (us := us) (m' := m') (vs := vs) (by rw [gm2B, gmB, hg, Bool.false_and, Bool.false_and]))
    clear hcon hg
    go_enter Try.func76, Try.ntmps76
    go_wp2_with fail
    refine HCON.out.mono ?_
    rintro e W1 ⟨rfl, hb1⟩
    have hbw := hb0.trans (hb1.mono hz0)
    go_wp2_with fail
    go_ret
    exact ⟨by rw [HP.out]; rfl, hbw⟩
  | true =>
    have HG := Lib.hid (grpB_iff.1 hg)
    have HP : Hid (gm2B t m us m' vs = (modB t m us && modB t m' vs)) := by
      show gm2B t m us m' vs = _
      rw [gm2B, gmB, gmB, hg, Bool.true_and, Bool.true_and]
    rw [hg] at hcon
    have HCON := Lib.hid hcon
    clear hcon hg
    go_enter Try.func76, Try.ntmps76
    go_wp2_with fail
    refine HCON.out.mono ?_
    rintro e W1 ⟨rfl, hb1⟩
    have hbw := hb0.trans (hb1.mono hz0)
    have H1 := Lib.hid (h0.below hb1 h0.lt)
    have K1 := Lib.hid (hk0.below hb1 hk0.lt)
    have hz1 := hb1.size
    have HR1 := Lib.hid (HR.out.below hb1 (by omega))
    have HX1 := Lib.hid (HX.out.below hb1 (by omega))
    have HY1 := Lib.hid (HY.out.below hb1 (by omega))
    clear c0 h0 hk0 hb1 HR HX HY
    go_wp2_with fail
    go_loopw [5] (fun i wr => ∃ j : Nat, j ≤ 2 ∧ i = .int .i64 j ∧ Below W1.heap.size W1 wr ∧ Hid ((0 < j → modB t m us = true) ∧ (1 < j → modB t m' vs = true))) (fun i _ => 2 - (intOf i).toNat)
    case atStart => exact ⟨0, by omega, rfl, Below.refl _ _, Lib.hid ⟨fun h => absurd h (by omega), fun h => absurd h (by omega)⟩⟩
    case round =>
      obtain ⟨j, hj, rfl, hd, HS⟩ := hrel
      have HD := Lib.hid hd
      have hzr := hd.size
      have x0 := H1.out.below hd H1.out.lt
      have x1 := K1.out.below hd K1.out.lt
      have hR2' := HR1.out.below hd (by omega)
      have hX2' := HX1.out.below hd (by omega)
      have hY2' := HY1.out.below hd (by omega)
      have hR2 : Rws wr.drew B A t := hR2'
      have hX2 : Ints wr.drew B' L us := hX2'
      have hY2 : Ints wr.drew B'' L' vs := hY2'
      have HR2 := Lib.hid hR2
      have HX2 := Lib.hid hX2
      have HY2 := Lib.hid hY2
      have hBd : B ≤ wr.drew.heap.size := show B ≤ wr.heap.size by omega
      have hBd' : B' ≤ wr.drew.heap.size := show B' ≤ wr.heap.size by omega
      have hBd'' : B'' ≤ wr.drew.heap.size := show B'' ≤ wr.heap.size by omega
      clear hd hR2 hX2 hY2 hR2' hX2' hY2'
      by_cases hlt : j = 0
      · subst hlt
        have hS : ∀ W', Below wr.drew.heap.size wr.drew W' → W'.cell? ⟨w.heap.size, 0, none⟩ = some (.slice A t.length c) ∧ W'.cell? ⟨k, 0, none⟩ = some (.int .i64 m) ∧ W'.cell? ⟨k, 1, none⟩ = some (.slice L us.length c') := fun W' hb =>
          ⟨(Has.below (w := wr.drew) x0 hb x0.lt).cell 0, (Has.below (w := wr.drew) x1 hb x1.lt).cell 0, (Has.below (w := wr.drew) x1 hb x1.lt).cell 1⟩
        have HSK := Lib.hid hS
        clear hS x0 x1
        go_wp2_with fail
        go_region_held3 (fun w' => w'.cell? ⟨w.heap.size, 0, none⟩ = some (.slice A t.length c) ∧ w'.cell? ⟨k, 0, none⟩ = some (.int .i64 m) ∧ w'.cell? ⟨k, 1, none⟩ = some (.slice L us.length c'))
          (first
            | exact HSK.out _ (Below.refl _ _)
            | exact HSK.out _ hb2d)
          (first
            | (go_at_call 113; refine (l02Is_any A L t m us c c' B B' wr.drew HR2.out HX2.out hBd hBd' HG.out hx).mono ?_; rintro e W2 ⟨rfl, hb2d⟩))
        have hb2 : Below wr.heap.size wr W2 := (Below.refl _ wr).drew.trans hb2d
        cases hq : modB t m us with
        | false =>
          have HQ := Lib.hid (gm2C_no (HP.out.trans (by rw [hq, Bool.false_and])))
          clear hq
          go_wp2_with fail
          go_ret
          exact ⟨by rw [HQ.out]; rfl, hbw.trans ((HD.out.trans (hb2.mono hzr)).mono (by omega))⟩
        | true =>
          have HQ := Lib.hid hq
          clear hq
          go_wp2_with fail
          go_roundw
          case rel => exact ⟨1, by omega, by go_num, HD.out.trans (hb2.mono hzr), Lib.hid ⟨fun _ => HQ.out, fun h => absurd h (by omega)⟩⟩
          case measure => simp [intOf]
      · by_cases hlt1 : j = 1
        · subst hlt1
          have hS : ∀ W', Below wr.drew.heap.size wr.drew W' → W'.cell? ⟨w.heap.size, 0, none⟩ = some (.slice A t.length c) ∧ W'.cell? ⟨k, 2, none⟩ = some (.int .i64 m') ∧ W'.cell? ⟨k, 3, none⟩ = some (.slice L' vs.length c'') := fun W' hb =>
            ⟨(Has.below (w := wr.drew) x0 hb x0.lt).cell 0, (Has.below (w := wr.drew) x1 hb x1.lt).cell 2, (Has.below (w := wr.drew) x1 hb x1.lt).cell 3⟩
          have HSK := Lib.hid hS
          clear hS x0 x1 hlt
          go_wp2_with fail
          go_region_held3 (fun w' => w'.cell? ⟨w.heap.size, 0, none⟩ = some (.slice A t.length c) ∧ w'.cell? ⟨k, 2, none⟩ = some (.int .i64 m') ∧ w'.cell? ⟨k, 3, none⟩ = some (.slice L' vs.length c''))
            (first
              | exact HSK.out _ (Below.refl _ _)
              | exact HSK.out _ hb2d)
            (first
              | (go_at_call 113; refine (l02Is_any A L' t m' vs c c'' B B'' wr.drew HR2.out HY2.out hBd hBd'' HG.out hy).mono ?_; rintro e W2 ⟨rfl, hb2d⟩))
          have hb2 : Below wr.heap.size wr W2 := (Below.refl _ wr).drew.trans hb2d
          cases hq : modB t m' vs with
          | false =>
            have HQ := Lib.hid (gm2C_no (HP.out.trans (by rw [hq, Bool.and_false])))
            clear hq
            go_wp2_with fail
            go_ret
            exact ⟨by rw [HQ.out]; rfl, hbw.trans ((HD.out.trans (hb2.mono hzr)).mono (by omega))⟩
          | true =>
            have HQ := Lib.hid hq
            clear hq
            go_wp2_with fail
            go_roundw
            case rel => exact ⟨2, by omega, by go_num, HD.out.trans (hb2.mono hzr), Lib.hid ⟨fun _ => HS.out.1 (by omega), fun _ => HQ.out⟩⟩
            case measure => simp [intOf]
        · have hjj : j = 2 := by omega
          subst hjj
          clear hlt hlt1 x0 x1
          go_wp2_with fail
          go_ret
          exact ⟨by rw [gm2C_yes (HP.out.trans (by rw [HS.out.1 (by omega), HS.out.2 (by omega)]; rfl))]; rfl, hbw.trans (HD.out.mono (by omega))⟩

end Go.Proofs.Ytdehalkebneaoaa
