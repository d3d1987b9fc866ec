/- The laws' helpers that compare lists, tables and groups. -/
import Derived.Test.YtdehalkebneaoaaDoorBase
namespace Go.Proofs.YtdehalkebneaoaaDoor
open Go.RowKit

theorem nth_ext {xs ys : List Int} (hl : xs.length = ys.length) (h : ∀ i, i < xs.length → nth xs i = nth ys i) : xs = ys := by
  apply List.ext_getElem hl
  intro i h1 h2
  have := h i h1
  simpa [nth, h1, h2] using this

theorem row_ext {t u : List (List Int)} (hl : t.length = u.length) (h : ∀ i, i < t.length → row t i = row u i) : t = u := by
  apply List.ext_getElem hl
  intro i h1 h2
  have := h i h1
  simpa [row, h1, h2] using this

set_option maxHeartbeats 400000 in
/-- eqInt64S: are two lists equal? -/
theorem eqInt64S_any (A A' : Option Addr) (xs ys : List Int) (c c' B B' : Nat) (w : World) (hx : Ints w B A xs) (hy : Ints w B' A' ys) (hn : xs.length ≤ 1048576) (hm : ys.length ≤ 1048576) :
    Calls Tryd.prog 19 #[.slice A xs.length c, .slice A' ys.length c'] w fun e w' => e = .returned (.bool (decide (xs = ys))) ∧ Drawn w w' := by
  by_cases hl : xs.length = ys.length
  · have hne : ((xs.length : Int) != (ys.length : Int)) = false := by simp [hl]
    have HLEN := Lib.hid hl
    clear hl
    go_enter Tryd.func19, Tryd.ntmps19
    go_wp2
    clear hne
    go_loopw [5] (fun i wr => ∃ k : Nat, k ≤ xs.length ∧ i = .int .i64 k ∧ Drawn w wr ∧ ∀ i, i < k → nth xs i = nth ys i) (fun i _ => xs.length - (intOf i).toNat)
    case atStart => exact ⟨0, by omega, rfl, Drawn.refl _, fun i hi => absurd hi (by omega)⟩
    case round =>
      obtain ⟨k, hk, rfl, hb, he⟩ := hrel
      have HE := Lib.hid he
      clear he
      by_cases hlt : k < xs.length
      · rcases hx with hx | ⟨b, o, rfl, hbB, hc⟩
        · subst hx; exact absurd hlt (by simp)
        have hlt2 : k < ys.length := by rw [← HLEN.out]; exact hlt
        rcases hy with hy | ⟨b', o', rfl, hbB', hc'⟩
        · subst hy; exact absurd hlt2 (by simp)
        have hcell := (hb.cell ⟨b, o + k, none⟩).trans (hc k hlt)
        have hcell' := (hb.cell ⟨b', o' + k, none⟩).trans (hc' k hlt2)
        have HC := Lib.hid hc
        have HC' := Lib.hid hc'
        clear hc hc'
        by_cases hq : nth xs k = nth ys k
        · have hq' : (nth xs k != nth ys k) = false := by simp [hq]
          have HQ := Lib.hid hq
          clear hq
          go_wp2
          go_quiet (fail)
          go_wp2
          go_roundw
          case rel => exact ⟨k + 1, by omega, by go_num, hb.more _, fun i hi => by
            rcases Nat.lt_or_ge i k with h | h
            · exact HE.out i h
            · obtain rfl : i = k := by omega
              exact HQ.out⟩
          case measure => simp [intOf]; omega
        · have hq' : (nth xs k != nth ys k) = true := by simp [hq]
          have HQ := Lib.hid hq
          clear hq
          go_wp2
          go_quiet (fail)
          go_wp2
          go_ret
          exact ⟨by rw [decide_eq_false (fun e => HQ.out (by rw [e]))]; rfl, hb.more _⟩
      · have hkk : k = xs.length := by omega
        subst hkk
        go_wp2
        go_ret
        exact ⟨by rw [decide_eq_true (nth_ext HLEN.out HE.out)]; rfl, hb⟩
  · have hne : ((xs.length : Int) != (ys.length : Int)) = true := by rw [bne_iff_ne]; omega
    have HLEN := Lib.hid hl
    clear hl
    go_enter Tryd.func19, Tryd.ntmps19
    go_wp2
    go_ret
    exact ⟨by rw [decide_eq_false (fun e => HLEN.out (by rw [e]))]; rfl, Drawn.refl _⟩

set_option maxHeartbeats 400000 in
/-- eqInt64SS: are two tables equal? -/
theorem eqInt64SS_any (A A' : Option Addr) (t u : List (List Int)) (c c' B B' : Nat) (w : World) (hx : Rws w B A t) (hy : Rws w B' A' u) (hn : t.length ≤ 1048576) (hm : u.length ≤ 1048576)
    (hn' : ∀ i, i < t.length → (row t i).length ≤ 1048576) (hm' : ∀ i, i < u.length → (row u i).length ≤ 1048576) :
    Calls Tryd.prog 68 #[.slice A t.length c, .slice A' u.length c'] w fun e w' => e = .returned (.bool (decide (t = u))) ∧ Drawn w w' := by
  have HN := Lib.hid hn'
  have HM := Lib.hid hm'
  clear hn' hm'
  by_cases hl : t.length = u.length
  · have hne : ((t.length : Int) != (u.length : Int)) = false := by simp [hl]
    have HLEN := Lib.hid hl
    clear hl
    go_enter Tryd.func68, Tryd.ntmps68
    go_wp2
    clear hne
    go_loopw [5] (fun i wr => ∃ k : Nat, k ≤ t.length ∧ i = .int .i64 k ∧ Drawn w wr ∧ ∀ i, i < k → row t i = row u i) (fun i _ => t.length - (intOf i).toNat)
    case atStart => exact ⟨0, by omega, rfl, Drawn.refl _, fun i hi => absurd hi (by omega)⟩
    case round =>
      obtain ⟨k, hk, rfl, hb, he⟩ := hrel
      have HE := Lib.hid he
      clear he
      by_cases hlt : k < t.length
      · rcases hx with hx | ⟨b, o, rfl, hbB, hc⟩
        · subst hx; exact absurd hlt (by simp)
        have hlt2 : k < u.length := by rw [← HLEN.out]; exact hlt
        rcases hy with hy | ⟨b', o', rfl, hbB', hc'⟩
        · subst hy; exact absurd hlt2 (by simp)
        obtain ⟨R, c1, h1, hI⟩ := hc k hlt
        obtain ⟨R', c1', h1', hI'⟩ := hc' k hlt2
        have hcell := (hb.cell ⟨b, o + k, none⟩).trans h1
        have hcell' := (hb.cell ⟨b', o' + k, none⟩).trans h1'
        have HC := Lib.hid hc
        have HC' := Lib.hid hc'
        clear hc hc' h1 h1'
        have HEQ := Lib.hid (eqInt64S_any R R' (row t k) (row u k) c1 c1' B B')
        have HI := Lib.hid (hb.ints hI)
        have HI' := Lib.hid (hb.ints hI')
        clear hI hI'
        by_cases hq : row t k = row u k
        · rw [decide_eq_true hq] at HEQ
          have HQ := Lib.hid hq
          clear hq
          go_wp2
          go_quiet ((go_at_call 19; exact Calls.quiet_of (HEQ.out _ HI.out HI'.out (HN.out k hlt) (HM.out k hlt2))))
          go_wp2
          go_roundw
          case rel => exact ⟨k + 1, by omega, by go_num, hb.more _, fun i hi => by
            rcases Nat.lt_or_ge i k with h | h
            · exact HE.out i h
            · obtain rfl : i = k := by omega
              exact HQ.out⟩
          case measure => simp [intOf]; omega
        · rw [decide_eq_false hq] at HEQ
          have HQ := Lib.hid hq
          clear hq
          go_wp2
          go_quiet ((go_at_call 19; exact Calls.quiet_of (HEQ.out _ HI.out HI'.out (HN.out k hlt) (HM.out k hlt2))))
          go_wp2
          go_ret
          exact ⟨by rw [decide_eq_false (fun e => HQ.out (by rw [e]))]; rfl, hb.more _⟩
      · have hkk : k = t.length := by omega
        subst hkk
        go_wp2
        go_ret
        exact ⟨by rw [decide_eq_true (row_ext HLEN.out HE.out)]; rfl, hb⟩
  · have hne : ((t.length : Int) != (u.length : Int)) = true := by rw [bne_iff_ne]; omega
    have HLEN := Lib.hid hl
    clear hl
    go_enter Tryd.func68, Tryd.ntmps68
    go_wp2
    go_ret
    exact ⟨by rw [decide_eq_false (fun e => HLEN.out (by rw [e]))]; rfl, Drawn.refl _⟩

set_option maxHeartbeats 400000 in
/-- eqGroup: are two groups equal? -/
theorem eqGroup_any (A A' : Option Addr) (t u : List (List Int)) (c c' B B' : Nat) (w : World) (hx : Rws w B A t) (hy : Rws w B' A' u) (hB : B ≤ w.heap.size) (hB' : B' ≤ w.heap.size) (hn : t.length ≤ 1048576) (hm : u.length ≤ 1048576)
    (hn' : ∀ i, i < t.length → (row t i).length ≤ 1048576) (hm' : ∀ i, i < u.length → (row u i).length ≤ 1048576) :
    Calls Tryd.prog 20 #[.agg #[.slice A t.length c], .agg #[.slice A' u.length c']] w fun e w' => e = .returned (.bool (decide (t = u))) ∧ Below w.heap.size w w' := by
  have hb0 : Below w.heap.size w ((w.alloc (.cells #[.slice A t.length c] 29)).alloc (.cells #[.slice A' u.length c'] 29)) := ((Below.refl _ _).alloc (Nat.le_refl _) _).alloc (by simp) _
  have HX := Lib.hid (hx.below hb0 hB)
  have HY := Lib.hid (hy.below hb0 hB')
  have HN := Lib.hid hn'
  have HM := Lib.hid hm'
  clear hx hy hn' hm'
  go_enter Tryd.func20, Tryd.ntmps20
  go_wp2_with fail
  refine (eqInt64SS_any A A' t u c c' B B' _ HX.out HY.out hn hm HN.out HM.out).mono ?_
  rintro e W1 ⟨rfl, hd⟩
  have hb1 := hb0.trans (hd.below w.heap.size)
  clear hd
  cases hq : decide (t = u)
  · have HQ := Lib.hid hq
    clear hq
    go_wp2
    go_ret
    exact ⟨by rw [HQ.out]; rfl, hb1⟩
  · have HQ := Lib.hid hq
    clear hq
    go_wp2
    go_ret
    exact ⟨by rw [HQ.out]; rfl, hb1⟩

end Go.Proofs.YtdehalkebneaoaaDoor
