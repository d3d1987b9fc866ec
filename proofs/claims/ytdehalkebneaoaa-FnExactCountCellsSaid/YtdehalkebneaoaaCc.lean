/- CountCells: both contracts. -/
import Derived.Test.YtdehalkebneaoaaCe
namespace Go.Proofs.Ytdehalkebneaoaa
open Go.RowKit

noncomputable def qCountCells0 (t : List (List Int)) (m : Int) : Int := if grpB t = true ∧ inB m 0 3 = true then (cellsN t.length m.toNat : Int) else 0
noncomputable def qCountCells1 (t : List (List Int)) (m : Int) : Int := if grpB t = true then (if inB m 0 3 = true then 0 else 2) else 1

set_option maxHeartbeats 800000 in
theorem specCountCells_ex (t0 : List (List Int)) (m1 : Int) : ∀ (B0 : Option Addr) (d0 : Nat) (W : World), RwsW W B0 t0 → SmallT t0 →
    Calls Try.prog 43 #[.agg #[.slice B0 t0.length d0], .int .i64 m1] W fun e W' => e = .returned (.tuple #[.int .i64 (qCountCells0 t0 m1), .int .i64 (qCountCells1 t0 m1)]) ∧ Ex W W' := by
  intro A c w hR hs
  have e0 := Ex.new w (.cells #[.slice A t0.length c] 29)
  have HB := Lib.hid (Has.new w 29 #[.slice A t0.length c])
  have HC := Lib.hid (l01Is_ex A t0 c _ (hR.ex e0) hs)
  have HQ0 := Lib.hid (show qCountCells0 t0 m1 = _ from rfl)
  have HQ1 := Lib.hid (show qCountCells1 t0 m1 = _ from rfl)
  cases hg : grpB t0 with
  | false =>
    rw [hg] at HC
    have hq0 := Lib.hid (show qCountCells0 t0 m1 = 0 by rw [qCountCells0, hg]; simp)
    have hq1 := Lib.hid (show qCountCells1 t0 m1 = 1 by rw [qCountCells1, hg]; simp)
    clear hg
    go_enter Try.func43, Try.ntmps43
    go_wp2_with fail
    refine HC.out.mono ?_
    rintro e w2 ⟨rfl, he⟩
    go_wp2
    go_ret2
    exact ⟨by rw [hq0.out, hq1.out]; rfl, e0.trans he⟩
  | true =>
    rw [hg] at HC
    have hn1 := (grpB_iff.1 hg).n1
    have hn8 := (grpB_iff.1 hg).n8
    cases hd : inB m1 0 3 with
    | false =>
      have hq0 := Lib.hid (show qCountCells0 t0 m1 = 0 by rw [qCountCells0, hg, hd]; simp)
      have hq1 := Lib.hid (show qCountCells1 t0 m1 = 2 by rw [qCountCells1, hg, hd]; simp)
      clear hg
      go_enter Try.func43, Try.ntmps43
      go_wp2_with fail
      refine HC.out.mono ?_
      rintro e w2 ⟨rfl, he⟩
      go_wp2_with (go_at_call 66; refine (l01In_ex m1 0 3 _).mono ?_; rintro e w' ⟨rfl, rfl⟩)
      go_ret2
      exact ⟨by rw [hq0.out, hq1.out]; rfl, e0.trans he⟩
    | true =>
      obtain ⟨hm0, hm3⟩ := inB_true hd
      obtain ⟨n, rfl⟩ : ∃ n : Nat, m1 = (n : Int) := ⟨m1.toNat, by omega⟩
      have hq0 := Lib.hid (show qCountCells0 t0 (n : Int) = (cellsN t0.length n : Int) by rw [qCountCells0, hg, hd]; simp)
      have hq1 := Lib.hid (show qCountCells1 t0 (n : Int) = 0 by rw [qCountCells1, hg, hd]; simp)
      clear hg
      go_enter Try.func43, Try.ntmps43
      go_wp2_with fail
      refine HC.out.mono ?_
      rintro e w2 ⟨rfl, he⟩
      have cb := (HB.out.ex he).cell 0
      go_wp2_with (first
        | (go_at_call 66; refine (l01In_ex (n : Int) 0 3 _).mono ?_; rintro e w' ⟨rfl, rfl⟩)
        | (go_at_call 86; refine (l03Cells_any A t0.length c n _ hn8 hn1 (by omega)).mono ?_; rintro e w' ⟨rfl, he3⟩))
      go_ret2
      exact ⟨by rw [hq0.out, hq1.out]; rfl, e0.trans (he.trans he3)⟩

set_option maxHeartbeats 800000 in
theorem implCountCells_ex (t0 : List (List Int)) (m1 : Int) : ∀ (B0 : Option Addr) (d0 : Nat) (W : World), RwsW W B0 t0 → SmallT t0 →
    Calls Try.prog 44 #[.agg #[.slice B0 t0.length d0], .int .i64 m1] W fun e W' => e = .returned (.tuple #[.int .i64 (qCountCells0 t0 m1), .int .i64 (qCountCells1 t0 m1)]) ∧ Ex W W' := by
  intro A c w hR hs
  have e0 := Ex.new w (.cells #[.slice A t0.length c] 29)
  have HB := Lib.hid (Has.new w 29 #[.slice A t0.length c])
  have HC := Lib.hid (implIsGroup_ex A t0 c _ (hR.ex e0) hs)
  cases hg : grpB t0 with
  | false =>
    rw [hg] at HC
    have hq0 := Lib.hid (show qCountCells0 t0 m1 = 0 by rw [qCountCells0, hg]; simp)
    have hq1 := Lib.hid (show qCountCells1 t0 m1 = 1 by rw [qCountCells1, hg]; simp)
    clear hg
    go_enter Try.func44, Try.ntmps44
    go_wp2_with fail
    refine HC.out.mono ?_
    rintro e w2 ⟨rfl, he⟩
    go_wp2
    go_ret2
    exact ⟨by rw [hq0.out, hq1.out]; rfl, e0.trans he⟩
  | true =>
    rw [hg] at HC
    have hn1 := (grpB_iff.1 hg).n1
    have hn8 := (grpB_iff.1 hg).n8
    cases hd : inB m1 0 3 with
    | false =>
      have hq0 := Lib.hid (show qCountCells0 t0 m1 = 0 by rw [qCountCells0, hg, hd]; simp)
      have hq1 := Lib.hid (show qCountCells1 t0 m1 = 2 by rw [qCountCells1, hg, hd]; simp)
      clear hg
      go_enter Try.func44, Try.ntmps44
      go_wp2_with fail
      refine HC.out.mono ?_
      rintro e w2 ⟨rfl, he⟩
      go_wp2_with (go_at_call 87; refine (isDegree_ex m1 _).mono ?_; rintro e w' ⟨rfl, rfl⟩)
      go_ret2
      exact ⟨by rw [hq0.out, hq1.out]; rfl, e0.trans he⟩
    | true =>
      obtain ⟨hm0, hm3⟩ := inB_true hd
      obtain ⟨n, rfl⟩ : ∃ n : Nat, m1 = (n : Int) := ⟨m1.toNat, by omega⟩
      have hq0 := Lib.hid (show qCountCells0 t0 (n : Int) = (cellsN t0.length n : Int) by rw [qCountCells0, hg, hd]; simp)
      have hq1 := Lib.hid (show qCountCells1 t0 (n : Int) = 0 by rw [qCountCells1, hg, hd]; simp)
      clear hg
      go_enter Try.func44, Try.ntmps44
      go_wp2_with fail
      refine HC.out.mono ?_
      rintro e w2 ⟨rfl, he⟩
      have cb := (HB.out.ex he).cell 0
      go_wp2_with (first
        | (go_at_call 87; refine (isDegree_ex (n : Int) _).mono ?_; rintro e w' ⟨rfl, rfl⟩)
        | (go_at_call 88; refine (cellCount_any A t0.length c n _ hn8 hn1 (by omega)).mono ?_; rintro e w' ⟨rfl, he3⟩))
      go_ret2
      exact ⟨by rw [hq0.out, hq1.out]; rfl, e0.trans (he.trans he3)⟩

end Go.Proofs.Ytdehalkebneaoaa
