/- Is it a module? The specification's test at whatever module value, and IsModule. -/
import Derived.Test.YtahilkhnlobaoaaMi
namespace Go.Proofs.Ytahilkhnlobaoaa
open Go.RowKit

set_option maxHeartbeats 1000000 in
theorem l02Is_any (A L : Option Addr) (t : List (List Int)) (m : Int) (us : List Int) (c c'' B B' : Nat) (w : World) (hR : Rws w B A t) (hX : Ints w B' L us) (hB : B ≤ w.heap.size) (hB' : B' ≤ w.heap.size) (hg : IsGrp t) (hx : us.length ≤ 1048576) :
    Calls Try.prog 108 #[.agg #[.slice A t.length c], .agg #[.int .i64 m, .slice L us.length c'']] w fun e w' => e = .returned (.bool (modB t m us)) ∧ Below w.heap.size w w' := by
  by_cases hm : 2 ≤ m ∧ m ≤ 12
  · have h1 : (decide (2 ≤ m) && decide (m ≤ 12)) = true := by simp [hm]
    obtain ⟨hm2, hm12⟩ := hm
    by_cases hl : us.length = t.length
    · have hlen : 0 < us.length := by rw [hl]; exact hg.n1
      obtain ⟨bt, ot, bb, oo, C, rfl, hQ⟩ := hR.sq hg.n1 hg.sq
      rcases hX with hX | ⟨bx, ox, rfl, hbx, hcx⟩
      · subst hX
        exact absurd hlen (by simp)
      refine (l02IsSome_any t m us c c'' B bt ot bx ox bb oo C w hQ hcx hB (by omega) hg hm2 hm12 hl).mono ?_
      rintro e w' ⟨rfl, hb⟩
      refine ⟨?_, hb⟩
      rw [modB, h1, decide_eq_true hl, Bool.true_and, Bool.true_and]
    · have HP := Lib.hid (modB_len (m := m) hl)
      have hb0 : Below w.heap.size w ((w.alloc (.cells #[.slice A t.length c] 26)).alloc (.cells #[.int .i64 m, .slice L us.length c''] 29)) := ((Below.refl _ _).alloc (Nat.le_refl _) _).alloc (by simp) _
      have hne : ((us.length : Int) != (t.length : Int)) = true := by simp; omega
      have hn8 := hg.n8
      clear hl hR hX hg h1
      go_enter Try.func108, Try.ntmps108
      go_wp2_with fail
      refine (l01In_yes _ _ _ _ hm2 hm12).mono ?_
      rintro e w' ⟨rfl, rfl⟩
      go_wp2_with fail
      go_ret
      exact ⟨by rw [HP.out]; rfl, hb0⟩
  · have h1 : (decide (2 ≤ m) && decide (m ≤ 12)) = false := by
      rw [Bool.and_eq_false_iff]
      by_cases h : 2 ≤ m
      · exact .inr (decide_eq_false fun h' => hm ⟨h, h'⟩)
      · exact .inl (decide_eq_false h)
    have HP := Lib.hid (modB_range (t := t) (us := us) h1)
    have hb0 : Below w.heap.size w ((w.alloc (.cells #[.slice A t.length c] 26)).alloc (.cells #[.int .i64 m, .slice L us.length c''] 29)) := ((Below.refl _ _).alloc (Nat.le_refl _) _).alloc (by simp) _
    have hr : m < 2 ∨ 12 < m := by omega
    clear h1 hm hR hX hg
    go_enter Try.func108, Try.ntmps108
    go_wp2_with fail
    refine (l01In_no _ _ _ _ hr).mono ?_
    rintro e w' ⟨rfl, rfl⟩
    go_wp2_with fail
    go_ret
    exact ⟨by rw [HP.out]; rfl, hb0⟩

/-- Is it a module, and the code. -/
noncomputable def isModR (t : List (List Int)) (m : Int) (us : List Int) : Bool × Int := if grpB t = true then (modB t m us, 0) else (false, 1)

set_option maxRecDepth 100000 in
set_option maxHeartbeats 1000000 in
theorem specIsModule_any (A L : Option Addr) (t : List (List Int)) (m : Int) (us : List Int) (c c' B B' : Nat) (w : World) (hR : Rws w B A t) (hX : Ints w B' L us) (hB : B ≤ w.heap.size) (hB' : B' ≤ w.heap.size)
    (hn : t.length ≤ 1048576) (hl : ∀ i, i < t.length → (row t i).length ≤ 1048576) (hx : us.length ≤ 1048576) :
    Calls Try.prog 48 #[.agg #[.slice A t.length c], .agg #[.int .i64 m, .slice L us.length c']] w fun e w' => e = .returned (.tuple #[.bool (isModR t m us).1, .int .i64 (isModR t m us).2]) ∧ Below w.heap.size w w' := by
  have hb0 : Below w.heap.size w ((w.alloc (.cells #[.slice A t.length c] 26)).alloc (.cells #[.int .i64 m, .slice L us.length c'] 29)) := ((Below.refl _ _).alloc (Nat.le_refl _) _).alloc (by simp) _
  have h0 := (Has.new w 26 #[.slice A t.length c]).alloc (.cells #[.int .i64 m, .slice L us.length c'] 29)
  have h0' := Has.newAt (w := w.alloc (.cells #[.slice A t.length c] 26)) (e := 29) (cs := #[.int .i64 m, .slice L us.length c']) (k := w.heap.size + 1) (by simp)
  have hz0 := hb0.size
  have HR := Lib.hid (hR.below hb0 hB)
  have HX := Lib.hid (hX.below hb0 hB')
  have c0 : ((w.alloc (.cells #[.slice A t.length c] 26)).alloc (.cells #[.int .i64 m, .slice L us.length c'] 29)).cell? ⟨w.heap.size, 0, none⟩ = some (.slice A t.length c) := h0.cell 0
  have hcon := l01Is_any A t c B _ HR.out (by omega) hn hl
  clear hR hX hl
  cases hg : grpB t with
  | false =>
    rw [hg] at hcon
    have HCON := Lib.hid hcon
    have HP : Hid (isModR t m us = (false, 1)) := by
      show isModR t m us = _
      rw [isModR, hg]
      rfl
    clear hcon hg
    go_enter Try.func48, Try.ntmps48
    go_wp2_with fail
    refine HCON.out.mono ?_
    rintro e W1 ⟨rfl, hb1⟩
    have hbw := hb0.trans (hb1.mono hz0)
    go_wp2_with fail
    go_ret2
    exact ⟨by rw [HP.out]; rfl, hbw⟩
  | true =>
    have HG := Lib.hid (grpB_iff.1 hg)
    have HP : Hid (isModR t m us = (modB t m us, 0)) := by
      show isModR t m us = _
      rw [isModR, if_pos hg]
    rw [hg] at hcon
    have HCON := Lib.hid hcon
    clear hcon hg
    go_enter Try.func48, Try.ntmps48
    go_wp2_with fail
    refine HCON.out.mono ?_
    rintro e W1 ⟨rfl, hb1⟩
    have hbw := hb0.trans (hb1.mono hz0)
    have c1 := (h0.below hb1 h0.lt).cell 0
    have c1' := (h0'.below hb1 h0'.lt).cell 0
    have c1'' := (h0'.below hb1 h0'.lt).cell 1
    have hz1 := hb1.size
    clear c0
    go_wp2_with fail
    refine (l02Is_any A L t m us c c' B B' W1 (HR.out.below hb1 (by omega)) (HX.out.below hb1 (by omega)) (by omega) (by omega) HG.out hx).mono ?_
    rintro e W2 ⟨rfl, hb2⟩
    generalize modB t m us = bq at *
    go_wp2_with fail
    go_ret2
    exact ⟨by rw [HP.out]; rfl, hbw.trans (hb2.mono hbw.size)⟩

end Go.Proofs.Ytahilkhnlobaoaa
