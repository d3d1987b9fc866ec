/- Renumberings: the specification's test. -/
import Derived.Test.YtenenlpfpkdplaaRn
import Derived.Test.YtenenlpfpkdplaaSpA
namespace Go.Proofs.Ytenenlpfpkdplaa
open Go.RowKit Go.Shelf

attribute [local go_sem] Oper.semAt_some

theorem infoBool : (Try.prog.info? 4).map (fun i => (i.zero, i.size, i.bytes)) = some (some (.bool false), 1, 1) := by kernel_rfl
/-- make([]bool, n) -/
theorem makeBool (n : Nat) (hn : n ≤ 1048576) (w : World) :
    (Instr.makeSlice 74 (.int .i64 (n : Int)) (.int .i64 (n : Int))).run Try.prog w = .ok (.slice (some ⟨w.heap.size, 0, none⟩) n n) (w.alloc (.cells (tab n fun _ => .bool false) 4)) := by
  obtain ⟨i0, hi, hz0, hz1, hz2⟩ := info_parts infoBool
  have hr := run_make (P := Try.prog) w 74 4 i0 _ Try.underlying74 hi hz0 .i64 .i64 n n (by omega) (by omega) (by rw [hz2]; omega) (by omega)
  rw [hr, hz1, madeCells_one _ _ rfl]
  simp

/-- The first k numbers are elements, all different. -/
def NumK (N : Nat) (xs : List Int) (k : Nat) : Prop := ∀ i, i < k → (0 ≤ nth xs i ∧ nth xs i < N) ∧ ∀ j, j < i → nth xs j ≠ nth xs i
open Classical in
noncomputable def metB (N : Nat) (xs : List Int) (k : Nat) : Array Value := tab N fun x => .bool (decide (∃ i, i < k ∧ nth xs i = (x : Int)))
theorem numK_inj {N : Nat} {xs : List Int} {k : Nat} (h : NumK N xs k) : ∀ i j, i < k → j < k → nth xs i = nth xs j → i = j := fun i j hi hj e => by
  rcases Nat.lt_trichotomy i j with hij | hij | hij
  · exact absurd e ((h j hj).2 i hij)
  · exact hij
  · exact absurd e.symm ((h i hi).2 j hij)
theorem ren_numK {N : Nat} {xs : List Int} (h : RenP N xs) : NumK N xs xs.length := fun i hi => by
  rw [h.len] at hi
  exact ⟨h.rng i hi, fun j hj e => by have := h.inj j i (by omega) hi e; omega⟩
theorem ren_of {N : Nat} {xs : List Int} (h : NumK N xs xs.length) (hl : xs.length = N) (h0 : nth xs 0 = 0) : RenP N xs := by
  subst hl
  exact ⟨rfl, fun i hi => (h i hi).1, numK_inj h, h0⟩

set_option maxRecDepth 100000 in
set_option maxHeartbeats 8000000 in
theorem l01Numbers_any (L : Option Addr) (xs : List Int) (c N : Nat) (w : World) (hX : IntsW w L xs) (hx : xs.length ≤ 1048576) (hN1 : 1 ≤ N) (hN : N ≤ 8) :
    Calls Try.prog 42 #[.slice L xs.length c, .int .i64 (N : Int)] w fun e w' => e = .returned (.bool (renB N xs)) ∧ Ex w w' := by
  have hmk := makeBool N (by omega)
  have HXI := Lib.hid hX
  have HX0 := Lib.hid (Ex.new w (.cells (tab N fun _ => .bool false) 4))
  have HM0 : Hid (Has (w.alloc (.cells (tab N fun _ => .bool false) 4)) w.heap.size 4 (metB N xs 0)) := Lib.hid (by
    have h := Has.new w 4 (tab N fun _ => .bool false)
    refine Eq.mp (congrArg (fun f => Has _ _ 4 f) (tab_congr fun y hy => ?_)) h
    simp)
  clear hX
  go_enter Try.func42, Try.ntmps42
  go_wp2_with fail
  generalize w.alloc (.cells (tab N fun _ => .bool false) 4) = W0 at *
  clear hmk
  go_loopw [6] (fun i wr => ∃ k : Nat, k ≤ xs.length ∧ i = .int .i64 (k : Int) ∧ Hid (NumK N xs k) ∧ Hid (Ex w wr) ∧ Hid (Has wr w.heap.size 4 (metB N xs k))) (fun i _ => xs.length - (intOf i).toNat)
  case atStart => exact ⟨0, Nat.zero_le _, rfl, Lib.hid (fun i hi => absurd hi (Nat.not_lt_zero i)), HX0, HM0⟩
  case round =>
    clear HX0 HM0
    obtain ⟨k, hk, rfl, HK, HX, HM⟩ := hrel
    by_cases hlt : k < xs.length
    · obtain ⟨b, o, rfl, hbx, hcx⟩ := (HXI.out.ex HX.out).ints.at_ hlt
      have HIN := Lib.hid (l01In_ex (nth xs k) 0 ((N : Int) - 1) wr)
      by_cases hin : 0 ≤ nth xs k ∧ nth xs k < N
      · have hb : inB (nth xs k) 0 ((N : Int) - 1) = true := inB_of hin.1 (by omega)
        rw [hb] at HIN
        clear hb
        obtain ⟨x, hx'⟩ : ∃ x : Nat, nth xs k = x := ⟨(nth xs k).toNat, by omega⟩
        have hxN : x < N := by omega
        have HNX := Lib.hid hx'
        rw [hx'] at HIN hcx
        have cm : wr.cell? ⟨w.heap.size, x, none⟩ = some (.bool (decide (∃ i, i < k ∧ nth xs i = (x : Int)))) := by
          rw [HM.out.cell, metB, tab_get hxN]
        by_cases hrep : ∃ i, i < k ∧ nth xs i = (x : Int)
        · rw [decide_eq_true hrep] at cm
          have HNB : Hid (renB N xs = false) := Lib.hid (renB_false fun h => by
            obtain ⟨i, hi, e⟩ := hrep
            exact (ren_numK h k hlt).2 i hi (e.trans HNX.out.symm))
          clear hrep hin hx'
          go_wp2_with fail
          refine HIN.out.mono ?_
          rintro e w' ⟨rfl, rfl⟩
          go_wp2_with fail
          go_ret
          exact ⟨by rw [HNB.out]; rfl, HX.out⟩
        · rw [decide_eq_false hrep] at cm
          have HK1 : Hid (NumK N xs (k + 1)) := Lib.hid (fun i hi => by
            rcases Nat.lt_or_eq_of_le (Nat.le_of_lt_succ hi) with h | rfl
            · exact HK.out i h
            · exact ⟨hin, fun j hj e => hrep ⟨j, hj, e.trans hx'⟩⟩)
          have HMP : Hid ((metB N xs k).setIfInBounds x (.bool true) = metB N xs (k + 1)) := Lib.hid (by
            unfold metB
            rw [tab_set hxN]
            refine tab_congr fun y hy => ?_
            by_cases hyx : y = x
            · rw [if_pos hyx, decide_eq_true ⟨k, Nat.lt_succ_self k, by rw [hx', hyx]⟩]
            · rw [if_neg hyx]
              congr 1
              refine decide_eq_decide.2 ⟨fun ⟨i, h, e⟩ => ⟨i, by omega, e⟩, fun ⟨i, h, e⟩ => ?_⟩
              rcases Nat.lt_or_eq_of_le (Nat.le_of_lt_succ h) with h | rfl
              · exact ⟨i, h, e⟩
              · exact absurd (by omega) hyx)
          have fm := HM.out.free x
          clear hrep hin hx'
          go_wp2_with fail
          refine HIN.out.mono ?_
          rintro e w' ⟨rfl, rfl⟩
          go_wp2_with fail
          go_roundw
          case rel => exact ⟨k + 1, by omega, by go_num, HK1, Lib.hid (HX.out.setCell (p := ⟨w.heap.size, x, none⟩) (Nat.le_refl _) _), Lib.hid (HMP.out ▸ HM.out.put x (.bool true))⟩
          case measure => simp [intOf]; omega
      · have hb : inB (nth xs k) 0 ((N : Int) - 1) = false := inB_out (by omega)
        rw [hb] at HIN
        have HNB : Hid (renB N xs = false) := Lib.hid (renB_false fun h => hin (ren_numK h k hlt).1)
        clear hb hin
        obtain ⟨x, hx'⟩ : ∃ x, nth xs k = x := ⟨_, rfl⟩
        rw [hx'] at HIN hcx
        clear hx'
        go_wp2_with fail
        refine HIN.out.mono ?_
        rintro e w' ⟨rfl, rfl⟩
        go_wp2_with fail
        go_ret
        exact ⟨by rw [HNB.out]; rfl, HX.out⟩
    · obtain rfl : k = xs.length := by omega
      by_cases hl : xs.length = N
      · obtain ⟨b, o, rfl, hbx, hcx⟩ := (HXI.out.ex HX.out).ints.at_ (j := 0) (by omega)
        have HNB : Hid (renB N xs = decide (nth xs 0 = 0)) := Lib.hid (by
          by_cases h0 : nth xs 0 = 0
          · rw [renB_true (ren_of HK.out hl h0), decide_eq_true h0]
          · rw [renB_false fun h => h0 h.zero, decide_eq_false h0])
        obtain ⟨x, hx'⟩ : ∃ x, nth xs 0 = x := ⟨_, rfl⟩
        rw [hx'] at HNB hcx
        clear hx'
        rw [Nat.add_zero] at hcx
        have hli : (xs.length : Int) = (N : Int) := by omega
        by_cases h0 : x = 0
        · subst h0
          rw [decide_eq_true rfl] at HNB
          go_wp2_with fail
          go_ret
          exact ⟨by rw [HNB.out]; rfl, HX.out⟩
        · rw [decide_eq_false h0] at HNB
          have hxb : (x == 0) = false := by simp [h0]
          go_wp2_with fail
          go_ret
          exact ⟨by rw [HNB.out]; rfl, HX.out⟩
      · have HNB : Hid (renB N xs = false) := Lib.hid (renB_false fun h => hl h.len)
        have hli : ¬ (xs.length : Int) = (N : Int) := by omega
        clear hl
        go_wp2_with fail
        go_ret
        exact ⟨by rw [HNB.out]; rfl, HX.out⟩

end Go.Proofs.Ytenenlpfpkdplaa
