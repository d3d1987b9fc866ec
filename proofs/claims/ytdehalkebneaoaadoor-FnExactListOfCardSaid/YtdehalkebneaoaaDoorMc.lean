/- The code for a group and one module: the specification's l02Code. -/
import Derived.Test.YtdehalkebneaoaaDoorMj
namespace Go.Proofs.YtdehalkebneaoaaDoor
open Go.RowKit

/-- Is it a group, and a module of it? -/
noncomputable def gmB (t : List (List Int)) (m : Int) (us : List Int) : Bool := grpB t && modB t m us
noncomputable def gmC (t : List (List Int)) (m : Int) (us : List Int) : Int := if gmB t m us = true then 0 else 1
theorem gmC_no {t : List (List Int)} {m : Int} {us : List Int} (h : gmB t m us = false) : gmC t m us = 1 := by rw [gmC, h]; rfl
theorem gmC_yes {t : List (List Int)} {m : Int} {us : List Int} (h : gmB t m us = true) : gmC t m us = 0 := by rw [gmC, h]; rfl

set_option maxRecDepth 100000 in
set_option maxHeartbeats 1000000 in
theorem l02Code_any (A L : Option Addr) (t : List (List Int)) (m : Int) (us : List Int) (c c' k B B' : Nat) (w : World) (hR : Rws w B A t) (hX : Ints w B' L us) (hK : Has w k 44 #[.int .i64 m, .slice L us.length c']) (hB : B ≤ w.heap.size) (hB' : B' ≤ w.heap.size)
    (hn : t.length ≤ 1048576) (hl : ∀ i, i < t.length → (row t i).length ≤ 1048576) (hx : us.length ≤ 1048576) :
    Calls Tryd.prog 99 #[.agg #[.slice A t.length c], .slice (some ⟨k, 0, none⟩) 1 1] w fun e w' => e = .returned (.int .i64 (gmC t m us)) ∧ Below w.heap.size w w' := by
  have hb0 : Below w.heap.size w (w.alloc (.cells #[.slice A t.length c] 29)) := (Below.refl _ _).alloc (Nat.le_refl _) _
  have h0 := Has.new w 29 #[.slice A t.length c]
  have hk0 := hK.alloc (.cells #[.slice A t.length c] 29)
  have hz0 := hb0.size
  have HR := Lib.hid (hR.below hb0 hB)
  have HX := Lib.hid (hX.below hb0 hB')
  have c0 : (w.alloc (.cells #[.slice A t.length c] 29)).cell? ⟨w.heap.size, 0, none⟩ = some (.slice A t.length c) := h0.cell 0
  have hcon := l01Is_any A t c B _ HR.out (by omega) hn hl
  clear hR hX hl hK
  cases hg : grpB t with
  | false =>
    rw [hg] at hcon
    have HCON := Lib.hid hcon
    have HP := Lib.hid (gmC_no (t := t) (m := m) (us := us) (by rw [gmB, hg, Bool.false_and]))
    clear hcon hg
    go_enter Tryd.func99, Tryd.ntmps99
    go_wp2_with fail
    refine HCON.out.mono ?_
    rintro e W1 ⟨rfl, hb1⟩
    have hbw := hb0.trans (hb1.mono hz0)
    go_wp2_with fail
    go_ret
    exact ⟨by rw [HP.out]; rfl, hbw⟩
  | true =>
    have HG := Lib.hid (grpB_iff.1 hg)
    have HP : Hid (gmB t m us = modB t m us) := by
      show gmB t m us = _
      rw [gmB, hg, Bool.true_and]
    rw [hg] at hcon
    have HCON := Lib.hid hcon
    clear hcon hg
    go_enter Tryd.func99, Tryd.ntmps99
    go_wp2_with fail
    refine HCON.out.mono ?_
    rintro e W1 ⟨rfl, hb1⟩
    have hbw := hb0.trans (hb1.mono hz0)
    have H1 := Lib.hid (h0.below hb1 h0.lt)
    have K1 := Lib.hid (hk0.below hb1 hk0.lt)
    have hz1 := hb1.size
    have HR1 := Lib.hid (HR.out.below hb1 (by omega))
    have HX1 := Lib.hid (HX.out.below hb1 (by omega))
    clear c0 h0 hk0 hb1 HR HX
    go_wp2_with fail
    go_loopw [5] (fun i wr => ∃ j : Nat, j ≤ 1 ∧ i = .int .i64 j ∧ Below W1.heap.size W1 wr ∧ Hid (0 < j → modB t m us = true)) (fun i _ => 1 - (intOf i).toNat)
    case atStart => exact ⟨0, by omega, rfl, Below.refl _ _, Lib.hid fun h => absurd h (by omega)⟩
    case round =>
      obtain ⟨j, hj, rfl, hd, HS⟩ := hrel
      have HD := Lib.hid hd
      have hzr := hd.size
      by_cases hlt : j = 0
      · subst hlt
        have x0 := H1.out.below hd H1.out.lt
        have x1 := K1.out.below hd K1.out.lt
        have hS : ∀ W', Below wr.drew.heap.size wr.drew W' → W'.cell? ⟨w.heap.size, 0, none⟩ = some (.slice A t.length c) ∧ W'.cell? ⟨k, 0, none⟩ = some (.int .i64 m) ∧ W'.cell? ⟨k, 1, none⟩ = some (.slice L us.length c') := fun W' hb =>
          ⟨(Has.below (w := wr.drew) x0 hb x0.lt).cell 0, (Has.below (w := wr.drew) x1 hb x1.lt).cell 0, (Has.below (w := wr.drew) x1 hb x1.lt).cell 1⟩
        have HSK := Lib.hid hS
        have hR2' := HR1.out.below hd (by omega)
        have hX2' := HX1.out.below hd (by omega)
        have hR2 : Rws wr.drew B A t := hR2'
        have hX2 : Ints wr.drew B' L us := hX2'
        have HR2 := Lib.hid hR2
        have HX2 := Lib.hid hX2
        have hBd : B ≤ wr.drew.heap.size := show B ≤ wr.heap.size by omega
        have hBd' : B' ≤ wr.drew.heap.size := show B' ≤ wr.heap.size by omega
        clear hd hS hR2 hX2 hR2' hX2' x0 x1
        go_wp2_with fail
        go_region_held3 (fun w' => w'.cell? ⟨w.heap.size, 0, none⟩ = some (.slice A t.length c) ∧ w'.cell? ⟨k, 0, none⟩ = some (.int .i64 m) ∧ w'.cell? ⟨k, 1, none⟩ = some (.slice L us.length c'))
          (first
            | exact HSK.out _ (Below.refl _ _)
            | exact HSK.out _ hb2d)
          (first
            | (go_at_call 124; refine (l02Is_any A L t m us c c' B B' wr.drew HR2.out HX2.out hBd hBd' HG.out hx).mono ?_; rintro e W2 ⟨rfl, hb2d⟩))
        have hb2 : Below wr.heap.size wr W2 := (Below.refl _ wr).drew.trans hb2d
        cases hq : modB t m us with
        | false =>
          have HQ := Lib.hid (gmC_no (HP.out.trans hq))
          clear hq
          go_wp2_with fail
          go_ret
          exact ⟨by rw [HQ.out]; rfl, hbw.trans ((HD.out.trans (hb2.mono hzr)).mono (by omega))⟩
        | true =>
          have HQ := Lib.hid hq
          clear hq
          go_wp2_with fail
          go_roundw
          case rel => exact ⟨1, by omega, by go_num, HD.out.trans (hb2.mono hzr), Lib.hid fun _ => HQ.out⟩
          case measure => simp [intOf]
      · have hjj : j = 1 := by omega
        subst hjj
        clear hd
        go_wp2_with fail
        go_ret
        exact ⟨by rw [gmC_yes (HP.out.trans (HS.out (by omega)))]; rfl, hbw.trans (HD.out.mono (by omega))⟩

end Go.Proofs.YtdehalkebneaoaaDoor
