/- Sz To Eq Md Cd in one text. -/
import Derived.Test.YtfnjpbjlikajbaaProg
import Derived.Test.YtfnjpbjlikajbaaBa
/- The laws' helpers that measure arguments: what is accepted is short. -/
namespace Go.Proofs.Ytfnjpbjlikajbaa
open Go.RowKit

/-- No more than L rows, and none longer than L. -/
def Small (t : List (List Int)) (L : Int) : Prop := (t.length : Int) ≤ L ∧ ∀ i, i < t.length → (((row t i).length : Nat) : Int) ≤ L

/-- What is left is less than 0, or the table is small. -/
def SzPost (t : List (List Int)) (left : Int) (w : World) (e : Ending) (w' : World) : Prop :=
  (∃ r : Int, e = .returned (.int .i64 r) ∧ (r = -1 ∨ (0 ≤ r ∧ r ≤ left ∧ Small t left))) ∧ w = w'

end Go.Proofs.Ytfnjpbjlikajbaa

/- The laws' helpers that copy arguments into new memory. -/
namespace Go.Proofs.Ytfnjpbjlikajbaa
open Go.RowKit

/-- What a slot of the new outer row holds when k rows are made. -/
def slotAt (G : Nat) (t : List (List Int)) (k i : Nat) : Value :=
  if i < k then .slice (some ⟨G + 1 + i, 0, none⟩) (row t i).length (row t i).length else .slice none 0 0

/-- k rows are made. -/
structure ToRel (w wr : World) (t : List (List Int)) (k : Nat) : Prop where
  low : Below w.heap.size w wr
  size : wr.heap.size = w.heap.size + 1 + k
  outer : Has wr w.heap.size 27 (tab t.length (slotAt w.heap.size t k))
  inner : ∀ i, i < k → Has wr (w.heap.size + 1 + i) 2 (tab (row t i).length fun j => .int .i64 (nth (row t i) j))

theorem ToRel.step {w wr w1 : World} {t : List (List Int)} {k : Nat} (h : ToRel w wr t k) (hk : k < t.length) (hb : Below wr.heap.size wr w1) (hz : w1.heap.size = wr.heap.size + 1)
    (hh : Has w1 wr.heap.size 2 (tab (row t k).length fun j => .int .i64 (nth (row t k) j))) :
    ToRel w (w1.setCell ⟨w.heap.size, k, none⟩ (.slice (some ⟨wr.heap.size, 0, none⟩) (row t k).length (row t k).length)) t (k + 1) := by
  have hs := h.size
  refine ⟨(h.low.trans (hb.mono (by omega))).setCell (Nat.le_refl _) _, by simp; omega, ?_, ?_⟩
  · have h2 := (h.outer.below hb (by omega)).put k (.slice (some ⟨wr.heap.size, 0, none⟩) (row t k).length (row t k).length)
    rw [tab_set hk] at h2
    rw [tab_congr (g := fun i => if i = k then .slice (some ⟨wr.heap.size, 0, none⟩) (row t k).length (row t k).length else slotAt w.heap.size t k i)]
    · exact h2
    · intro i _
      unfold slotAt
      by_cases e : i = k
      · subst e; simp [hs]
      · by_cases e2 : i < k
        · simp [e, e2, show i < k + 1 by omega]
        · simp [e, e2, show ¬ i < k + 1 by omega]
  · intro i hi
    by_cases e : i = k
    · subst e
      rw [← hs]
      exact hh.far (by show wr.heap.size ≠ w.heap.size; omega) _
    · exact ((h.inner i (by omega)).below hb (by omega)).far (by show _ ≠ w.heap.size; omega) _

theorem ToRel.fresh {w wr : World} {t : List (List Int)} (h : ToRel w wr t t.length) : FreshT wr w.heap.size 27 2 t :=
  ⟨by rw [tab_congr (g := slotAt w.heap.size t t.length)]
      · exact h.outer
      · intro i hi; simp [slotAt, hi], h.inner⟩

end Go.Proofs.Ytfnjpbjlikajbaa

/- The laws' helpers that compare lists, tables and groups. -/
namespace Go.Proofs.Ytfnjpbjlikajbaa
open Go.RowKit

theorem nth_ext {xs ys : List Int} (hl : xs.length = ys.length) (h : ∀ i, i < xs.length → nth xs i = nth ys i) : xs = ys := by
  apply List.ext_getElem hl
  intro i h1 h2
  have := h i h1
  simpa [nth, h1, h2] using this

theorem row_ext {t u : List (List Int)} (hl : t.length = u.length) (h : ∀ i, i < t.length → row t i = row u i) : t = u := by
  apply List.ext_getElem hl
  intro i h1 h2
  have := h i h1
  simpa [row, h1, h2] using this

set_option maxHeartbeats 400000 in
/-- eqInt64S: are two lists equal? -/
theorem eqInt64S_any (A A' : Option Addr) (xs ys : List Int) (c c' B B' : Nat) (w : World) (hx : Ints w B A xs) (hy : Ints w B' A' ys) (hn : xs.length ≤ 1048576) (hm : ys.length ≤ 1048576) :
    Calls Try.prog 19 #[.slice A xs.length c, .slice A' ys.length c'] w fun e w' => e = .returned (.bool (decide (xs = ys))) ∧ Drawn w w' := by
  by_cases hl : xs.length = ys.length
  · have hne : ((xs.length : Int) != (ys.length : Int)) = false := by simp [hl]
    have HLEN := Lib.hid hl
    clear hl
    go_enter Try.func19, Try.ntmps19
    go_wp2
    clear hne
    go_loopw [5] (fun i wr => ∃ k : Nat, k ≤ xs.length ∧ i = .int .i64 k ∧ Drawn w wr ∧ ∀ i, i < k → nth xs i = nth ys i) (fun i _ => xs.length - (intOf i).toNat)
    case atStart => exact ⟨0, by omega, rfl, Drawn.refl _, fun i hi => absurd hi (by omega)⟩
    case round =>
      obtain ⟨k, hk, rfl, hb, he⟩ := hrel
      have HE := Lib.hid he
      clear he
      by_cases hlt : k < xs.length
      · rcases hx with hx | ⟨b, o, rfl, hbB, hc⟩
        · subst hx; exact absurd hlt (by simp)
        have hlt2 : k < ys.length := by rw [← HLEN.out]; exact hlt
        rcases hy with hy | ⟨b', o', rfl, hbB', hc'⟩
        · subst hy; exact absurd hlt2 (by simp)
        have hcell := (hb.cell ⟨b, o + k, none⟩).trans (hc k hlt)
        have hcell' := (hb.cell ⟨b', o' + k, none⟩).trans (hc' k hlt2)
        have HC := Lib.hid hc
        have HC' := Lib.hid hc'
        clear hc hc'
        by_cases hq : nth xs k = nth ys k
        · have hq' : (nth xs k != nth ys k) = false := by simp [hq]
          have HQ := Lib.hid hq
          clear hq
          go_wp2
          go_quiet (fail)
          go_wp2
          go_roundw
          case rel => exact ⟨k + 1, by omega, by go_num, hb.more _, fun i hi => by
            rcases Nat.lt_or_ge i k with h | h
            · exact HE.out i h
            · obtain rfl : i = k := by omega
              exact HQ.out⟩
          case measure => simp [intOf]; omega
        · have hq' : (nth xs k != nth ys k) = true := by simp [hq]
          have HQ := Lib.hid hq
          clear hq
          go_wp2
          go_quiet (fail)
          go_wp2
          go_ret
          exact ⟨by rw [decide_eq_false (fun e => HQ.out (by rw [e]))]; rfl, hb.more _⟩
      · have hkk : k = xs.length := by omega
        subst hkk
        go_wp2
        go_ret
        exact ⟨by rw [decide_eq_true (nth_ext HLEN.out HE.out)]; rfl, hb⟩
  · have hne : ((xs.length : Int) != (ys.length : Int)) = true := by rw [bne_iff_ne]; omega
    have HLEN := Lib.hid hl
    clear hl
    go_enter Try.func19, Try.ntmps19
    go_wp2
    go_ret
    exact ⟨by rw [decide_eq_false (fun e => HLEN.out (by rw [e]))]; rfl, Drawn.refl _⟩

end Go.Proofs.Ytfnjpbjlikajbaa

/- The laws' helpers for modules: measure, copy, compare. -/
namespace Go.Proofs.Ytfnjpbjlikajbaa
open Go.RowKit

end Go.Proofs.Ytfnjpbjlikajbaa

/- The laws' helpers for cochains: measure, copy, compare. -/
namespace Go.Proofs.Ytfnjpbjlikajbaa
open Go.RowKit

end Go.Proofs.Ytfnjpbjlikajbaa
