/- IsModule, of the program. -/
import Derived.Test.YtahilkhnlobaoaaMn
namespace Go.Proofs.Ytahilkhnlobaoaa
open Go.RowKit

set_option maxRecDepth 100000 in
set_option maxHeartbeats 1000000 in
theorem implIsModule_any (A L : Option Addr) (t : List (List Int)) (m : Int) (us : List Int) (c c' B B' : Nat) (w : World) (hR : Rws w B A t) (hX : Ints w B' L us) (hB : B ≤ w.heap.size) (hB' : B' ≤ w.heap.size)
    (hn : t.length ≤ 1048576) (hl : ∀ i, i < t.length → (row t i).length ≤ 1048576) (hx : us.length ≤ 1048576) :
    Calls Try.prog 27 #[.agg #[.slice A t.length c], .agg #[.int .i64 m, .slice L us.length c']] w fun e w' => e = .returned (.tuple #[.bool (isModR t m us).1, .int .i64 (isModR t m us).2]) ∧ Below w.heap.size w w' := by
  have hb0 : Below w.heap.size w ((w.alloc (.cells #[.slice A t.length c] 26)).alloc (.cells #[.int .i64 m, .slice L us.length c'] 29)) := ((Below.refl _ _).alloc (Nat.le_refl _) _).alloc (by simp) _
  have h0 := (Has.new w 26 #[.slice A t.length c]).alloc (.cells #[.int .i64 m, .slice L us.length c'] 29)
  have h0' := Has.newAt (w := w.alloc (.cells #[.slice A t.length c] 26)) (e := 29) (cs := #[.int .i64 m, .slice L us.length c']) (k := w.heap.size + 1) (by simp)
  have hz0 := hb0.size
  have HR := Lib.hid (hR.below hb0 hB)
  have HX := Lib.hid (hX.below hb0 hB')
  have c0 : ((w.alloc (.cells #[.slice A t.length c] 26)).alloc (.cells #[.int .i64 m, .slice L us.length c'] 29)).cell? ⟨w.heap.size, 0, none⟩ = some (.slice A t.length c) := h0.cell 0
  have hcon := implIsGroup_any A t c B _ HR.out (by omega) hn hl
  have HL := Lib.hid hl
  clear hR hX hl
  cases hg : grpB t with
  | false =>
    rw [hg] at hcon
    have HCON := Lib.hid hcon
    have HP : Hid (isModR t m us = (false, 1)) := by
      show isModR t m us = _
      rw [isModR, hg]
      rfl
    clear hcon hg
    go_enter Try.func27, Try.ntmps27
    go_wp2_with fail
    refine HCON.out.mono ?_
    rintro e W1 ⟨rfl, hb1⟩
    have hbw := hb0.trans (hb1.mono hz0)
    go_wp2_with fail
    go_ret2
    exact ⟨by rw [HP.out]; rfl, hbw⟩
  | true =>
    have HGM := Lib.hid (gm_mod hg (m := m) (us := us))
    have HP : Hid (isModR t m us = (modB t m us, 0)) := by
      show isModR t m us = _
      rw [isModR, if_pos hg]
    rw [hg] at hcon
    have HCON := Lib.hid hcon
    clear hcon hg
    go_enter Try.func27, Try.ntmps27
    go_wp2_with fail
    refine HCON.out.mono ?_
    rintro e W1 ⟨rfl, hb1⟩
    have hbw := hb0.trans (hb1.mono hz0)
    have c1 := (h0.below hb1 h0.lt).cell 0
    have c1' := (h0'.below hb1 h0'.lt).cell 0
    have c1'' := (h0'.below hb1 h0'.lt).cell 1
    have hz1 := hb1.size
    clear c0
    go_wp2_with fail
    refine (isModule_any A L t m us c c' B B' W1 (HR.out.below hb1 (by omega)) (HX.out.below hb1 (by omega)) (by omega) (by omega) hn HL.out hx).mono ?_
    rintro e W2 ⟨rfl, hb2⟩
    rw [HGM.out]
    generalize modB t m us = bq at *
    go_wp2_with fail
    go_ret2
    exact ⟨by rw [HP.out]; rfl, hbw.trans (hb2.mono hbw.size)⟩

end Go.Proofs.Ytahilkhnlobaoaa
