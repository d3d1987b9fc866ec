/- Is it a module? The specification's test at whatever module value, and IsModule. -/
import Derived.Test.YtdehalkebneaoaaDoorMi
namespace Go.Proofs.YtdehalkebneaoaaDoor
open Go.RowKit

set_option maxHeartbeats 1000000 in
theorem l02Is_any (A L : Option Addr) (t : List (List Int)) (m : Int) (us : List Int) (c c'' B B' : Nat) (w : World) (hR : Rws w B A t) (hX : Ints w B' L us) (hB : B ≤ w.heap.size) (hB' : B' ≤ w.heap.size) (hg : IsGrp t) (hx : us.length ≤ 1048576) :
    Calls Tryd.prog 124 #[.agg #[.slice A t.length c], .agg #[.int .i64 m, .slice L us.length c'']] w fun e w' => e = .returned (.bool (modB t m us)) ∧ Below w.heap.size w w' := by
  by_cases hm : 2 ≤ m ∧ m ≤ 12
  · have h1 : (decide (2 ≤ m) && decide (m ≤ 12)) = true := by simp [hm]
    obtain ⟨hm2, hm12⟩ := hm
    by_cases hl : us.length = t.length
    · have hlen : 0 < us.length := by rw [hl]; exact hg.n1
      obtain ⟨bt, ot, bb, oo, C, rfl, hQ⟩ := hR.sq hg.n1 hg.sq
      rcases hX with hX | ⟨bx, ox, rfl, hbx, hcx⟩
      · subst hX
        exact absurd hlen (by simp)
      refine (l02IsSome_any t m us c c'' B bt ot bx ox bb oo C w hQ hcx hB (by omega) hg hm2 hm12 hl).mono ?_
      rintro e w' ⟨rfl, hb⟩
      refine ⟨?_, hb⟩
      rw [modB, h1, decide_eq_true hl, Bool.true_and, Bool.true_and]
    · have HP := Lib.hid (modB_len (m := m) hl)
      have hb0 : Below w.heap.size w ((w.alloc (.cells #[.slice A t.length c] 29)).alloc (.cells #[.int .i64 m, .slice L us.length c''] 44)) := ((Below.refl _ _).alloc (Nat.le_refl _) _).alloc (by simp) _
      have hne : ((us.length : Int) != (t.length : Int)) = true := by simp; omega
      have hn8 := hg.n8
      clear hl hR hX hg h1
      go_enter Tryd.func124, Tryd.ntmps124
      go_wp2_with fail
      refine (l01In_yes _ _ _ _ hm2 hm12).mono ?_
      rintro e w' ⟨rfl, rfl⟩
      go_wp2_with fail
      go_ret
      exact ⟨by rw [HP.out]; rfl, hb0⟩
  · have h1 : (decide (2 ≤ m) && decide (m ≤ 12)) = false := by
      rw [Bool.and_eq_false_iff]
      by_cases h : 2 ≤ m
      · exact .inr (decide_eq_false fun h' => hm ⟨h, h'⟩)
      · exact .inl (decide_eq_false h)
    have HP := Lib.hid (modB_range (t := t) (us := us) h1)
    have hb0 : Below w.heap.size w ((w.alloc (.cells #[.slice A t.length c] 29)).alloc (.cells #[.int .i64 m, .slice L us.length c''] 44)) := ((Below.refl _ _).alloc (Nat.le_refl _) _).alloc (by simp) _
    have hr : m < 2 ∨ 12 < m := by omega
    clear h1 hm hR hX hg
    go_enter Tryd.func124, Tryd.ntmps124
    go_wp2_with fail
    refine (l01In_no _ _ _ _ hr).mono ?_
    rintro e w' ⟨rfl, rfl⟩
    go_wp2_with fail
    go_ret
    exact ⟨by rw [HP.out]; rfl, hb0⟩

/-- Is it a module, and the code. -/
noncomputable def isModR (t : List (List Int)) (m : Int) (us : List Int) : Bool × Int := if grpB t = true then (modB t m us, 0) else (false, 1)

end Go.Proofs.YtdehalkebneaoaaDoor
