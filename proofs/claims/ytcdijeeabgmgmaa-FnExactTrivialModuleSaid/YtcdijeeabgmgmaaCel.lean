/- Ce Gr Col Ml Ab Gs Lp Ro Iv Cg in one text. -/
import Derived.RangeFuncBox
import Derived.OwnWalkIn
import Derived.IntWalk
import Derived.Laws.OwnMore
import Derived.Deep.AppendLies
import Derived.Deep.RegionHeld3
import Derived.Test.YtcdijeeabgmgmaaExv
import Derived.Test.YtcdijeeabgmgmaaOgr
import Derived.Test.YtcdijeeabgmgmaaBa
import Derived.Test.YtcdijeeabgmgmaaIsg
/- Counting cells: the powers of the order less 1. -/
namespace Go.Proofs.Ytcdijeeabgmgmaa
open Go.RowKit

/-- The number of lists of j elements other than 0. -/
def cellsN (N j : Nat) : Nat := (N - 1) ^ j
theorem cellsN_le {N j : Nat} (hN : N ≤ 8) (hj : j ≤ 4) : cellsN N j ≤ 2401 :=
  Nat.le_trans (Nat.pow_le_pow_left (show N - 1 ≤ 7 by omega) j) (Nat.le_trans (Nat.pow_le_pow_right (show 0 < 7 by omega) hj) (by decide))
theorem cellsN_zero (N : Nat) : cellsN N 0 = 1 := rfl
theorem cellsN_succ (N j : Nat) : cellsN N (j + 1) = cellsN N j * (N - 1) := Nat.pow_succ ..

theorem l01N_ex (A : Option Addr) (n c : Nat) (w : World) (hn : n ≤ 1048576) :
    Calls Try.prog 59 #[.agg #[.slice A n c]] w fun e w' => e = .returned (.int .i64 n) ∧ Ex w w' := (l01N_any A n c w hn).mono fun _ _ ⟨h1, h2⟩ => ⟨h1, h2 ▸ Ex.new _ _⟩
theorem groupOrder_ex (A : Option Addr) (n c : Nat) (w : World) (hn : n ≤ 1048576) :
    Calls Try.prog 46 #[.agg #[.slice A n c]] w fun e w' => e = .returned (.int .i64 n) ∧ Ex w w' := (groupOrder_any A n c w hn).mono fun _ _ ⟨h1, h2⟩ => ⟨h1, h2 ▸ Ex.new _ _⟩

/-- Is a number in a range? -/
def inB (n lo hi : Int) : Bool := decide (lo ≤ n) && decide (n ≤ hi)
theorem inB_true {n lo hi : Int} (h : inB n lo hi = true) : lo ≤ n ∧ n ≤ hi := by simpa [inB] using h
theorem inB_false {n lo hi : Int} (h : inB n lo hi = false) : n < lo ∨ hi < n := by
  have h' : ¬ (lo ≤ n ∧ n ≤ hi) := fun h2 => by simp [inB, h2.1, h2.2] at h
  omega
theorem inB_of {n lo hi : Int} (h0 : lo ≤ n) (h1 : n ≤ hi) : inB n lo hi = true := by simp [inB, h0, h1]
theorem inB_out {n lo hi : Int} (h : n < lo ∨ hi < n) : inB n lo hi = false := by
  cases hb : inB n lo hi
  · rfl
  · have := inB_true hb
    omega
theorem l01In_ex (n lo hi : Int) (w : World) : Calls Try.prog 23 #[.int .i64 n, .int .i64 lo, .int .i64 hi] w fun e w' => e = .returned (.bool (inB n lo hi)) ∧ w = w' := by
  cases hb : inB n lo hi
  · exact l01In_no n lo hi w (inB_false hb)
  · exact l01In_yes n lo hi w (inB_true hb).1 (inB_true hb).2

theorem l01Is_ex (A : Option Addr) (t : List (List Int)) (c : Nat) (w : World) (hR : RwsW w A t) (hs : SmallT t) :
    Calls Try.prog 22 #[.agg #[.slice A t.length c]] w fun e w' => e = .returned (.bool (grpB t)) ∧ Ex w w' := l01Is_any A t c w.heap.size w hR.rws (Nat.le_refl _) hs.1 hs.2
theorem implIsGroup_ex (A : Option Addr) (t : List (List Int)) (c : Nat) (w : World) (hR : RwsW w A t) (hs : SmallT t) :
    Calls Try.prog 26 #[.agg #[.slice A t.length c]] w fun e w' => e = .returned (.bool (grpB t)) ∧ Ex w w' := implIsGroup_any A t c w.heap.size w hR.rws (Nat.le_refl _) hs.1 hs.2

theorem l01In_e (n lo hi : Int) (w : World) : Calls Try.prog 23 #[.int .i64 n, .int .i64 lo, .int .i64 hi] w fun e w' => e = .returned (.bool (inB n lo hi)) ∧ Ex w w' := (l01In_ex n lo hi w).mono fun _ _ ⟨h1, h2⟩ => ⟨h1, Ex.of_eq' h2⟩
end Go.Proofs.Ytcdijeeabgmgmaa

/- A list of the call's own that grows by append. -/
namespace Go.Proofs.Ytcdijeeabgmgmaa
open Go.RowKit

/-- A list that grows: the value v owns the n numbers xs, in a block from lo on. -/
def GrowI (w : World) (lo : Nat) (v : Value) (n : Nat) (xs : List Int) : Prop := w.ownsRow lo 2 1 v n (xs.map fun x => .int .i64 x) ∧ xs.length = n

section
variable {a w w' : World} {lo b n : Nat} {v v' : Value} {xs : List Int} {T : TypeId} {cs : Array Value}
theorem GrowI.ex (h : GrowI w lo v n xs) (k : Ex w w') : GrowI w' lo v n xs := ⟨own_below h.1 k, h.2⟩
theorem GrowI.nil (w : World) (lo : Nat) : GrowI w lo (.slice none 0 0) 0 [] := ⟨World.ownsRow_nil _ _ _ _, rfl⟩
theorem GrowI.empty (w : World) (h : lo ≤ w.heap.size) : GrowI (w.alloc (.cells #[] 2)) lo (.slice (some ⟨w.heap.size, 0, none⟩) 0 0) 0 [] := ⟨own_empty w lo _ h, rfl⟩
theorem Has.not_row (h : Has w b T cs) (hT : T ≠ 2) (ho : GrowI w lo v n xs) : some b ≠ v.ownBlock := by
  rcases ho.1.2 with ⟨rfl, _⟩ | ⟨g, cap, cur, rfl, _, hgb, _⟩
  · simp [Value.ownBlock]
  · intro e'
    obtain rfl : b = g := by simpa [Value.ownBlock] using e'
    have := (show w.heap[b]? = _ from h).symm.trans hgb
    simp at this
    exact hT this.2
theorem GrowI.kept (h : GrowI w lo v n xs) (hb : Has w b T cs) (hT : T ≠ 2) (hg : w.grownBy w' (some b)) : GrowI w' lo v n xs :=
  ⟨h.1.kept hg (.inr fun e => hb.not_row hT h e.symm), h.2⟩
theorem grownBy_set (w : World) (b o : Nat) (u : Value) : w.grownBy (w.setCell ⟨b, o, none⟩ u) (some b) :=
  ⟨rfl, rfl, rfl, (KeepsWalks.setCell w _ u).size, fun k _ hk => Below.heap_setCell _ _ _ k (fun e => hk (by rw [e]))⟩
theorem GrowI.set (h : GrowI w lo v n xs) (hb : Has w b T cs) (hT : T ≠ 2) (o : Nat) (u : Value) : GrowI (w.setCell ⟨b, o, none⟩ u) lo v n xs := h.kept hb hT (grownBy_set w b o u)
theorem Has.grew (h : Has w b T cs) (hT : T ≠ 2) (ho : GrowI w lo v n xs) (hg : w.grownBy w' v.ownBlock) : Has w' b T cs := (hg.block b h.lt (h.not_row hT ho)).trans h
theorem Ex.grew (h : Ex a w) (ho : GrowI w lo v n xs) (hl : a.heap.size ≤ lo) (hg : w.grownBy w' v.ownBlock) : Ex a w' :=
  Below.grown h.below hg h.size fun k hk => Nat.le_trans hl (ho.1.lt k hk).1
theorem GrowI.snoc {x : Int} (h : GrowI w lo v n xs) (ho : w'.ownsRow lo 2 1 v' (n + 1) ((xs.map fun x => .int .i64 x) ++ [.int .i64 x])) : GrowI w' lo v' (n + 1) (xs ++ [x]) :=
  ⟨by rw [List.map_append]; exact ho, by rw [List.length_append, h.2]; rfl⟩
theorem GrowI.own (h : GrowI w lo v n xs) : ∃ A c, v = .slice A xs.length c ∧ OwnL w lo w.heap.size A xs := by
  obtain ⟨h, rfl⟩ := h
  rcases h.2 with ⟨rfl, h0⟩ | ⟨g, cap, cur, rfl, hg, hh, hr1, hr2, hr3, hr4⟩
  · exact ⟨none, 0, by rw [h0], Nat.le_refl _, fun hp => by omega⟩
  · refine ⟨some ⟨g, 0, none⟩, cap, rfl, Nat.le_refl _, fun _ => ⟨g, 0, rfl, hg, (Array.getElem?_eq_some_iff.1 hh).1, fun j hj => ?_⟩⟩
    have h1 : w.cell? ⟨g, j, none⟩ = cur[j]? := cell_of_row w g j cur 2 (0, 0) hh
    rw [Nat.zero_add, h1]
    have h2 : cur[j]? = some (.int .i64 (nth xs j)) := by
      have h3 : (cur.toList.take (xs.length * 1))[j]? = some (.int .i64 (nth xs j)) := by
        rw [hr4]
        simp [nth, hj]
      rw [List.getElem?_take_of_lt (by omega)] at h3
      simpa using h3
    exact ⟨h2, by simp [World.frozen?, hh]⟩
end

end Go.Proofs.Ytcdijeeabgmgmaa

/- slices.Collect over the elements of a group; what homomorphisms lead to. -/
namespace Go.Proofs.Ytcdijeeabgmgmaa
open Go.RowKit Go.Shelf

attribute [local go_sem] Oper.semAt_some

/-- The elements. -/
def elems (N : Nat) : List Int := (List.range N).map fun k : Nat => (k : Int)
theorem elems_length (N : Nat) : (elems N).length = N := by simp [elems]
theorem finRange_elems (N : Nat) : (List.finRange N).map (fun x : Fin N => Value.int .i64 (x.val : Int)) = (elems N).map fun x => .int .i64 x := by
  apply List.ext_getElem
  · simp [elems]
  · intro i h1 h2
    simp [elems]

end Go.Proofs.Ytcdijeeabgmgmaa

/- mappedList: a list with each element mapped by a closure, whatever closure. -/
namespace Go.Proofs.Ytcdijeeabgmgmaa
open Go.RowKit

set_option maxRecDepth 100000 in
set_option maxHeartbeats 2000000 in
theorem mappedList_any (L : Option Addr) (xs : List Int) (c kf : Nat) (cap : Array Value) (V : Nat → Int) (w : World) (hX : IntsW w L xs) (hx : xs.length ≤ 1048576)
    (eg : ∀ args w, (callFunc kf args).run Try.prog w = .ok (.enter kf args) w)
    (hF : ∀ W', Ex w W' → ∀ k, k < xs.length → Calls Try.prog kf (#[.int .i64 (nth xs k)] ++ cap) W' fun e w' => e = .returned (.int .i64 (V k)) ∧ Ex W' w') :
    Calls Try.prog 63 #[.slice L xs.length c, .func (.func kf) #[] cap] w fun e w' => ∃ C0 e0, e = .returned (.slice C0 ((List.range xs.length).map V).length e0) ∧ Ex w w' ∧ OwnL w' w.heap.size w'.heap.size C0 ((List.range xs.length).map V) := by
  have hmk := makeI xs.length hx
  have HF := Lib.hid hF
  have HEG := Lib.hid eg
  have HX := Lib.hid hX
  obtain ⟨g, hg⟩ : ∃ g, w.heap.size = g := ⟨_, rfl⟩
  have HGG := Lib.hid hg
  have hb := Has.new w 2 (tab xs.length fun _ => .int .i64 0)
  have he := Ex.new w (.cells (tab xs.length fun _ => .int .i64 0) 2)
  rw [hg] at hb
  clear hF eg hX hg
  go_enter Try.func63, Try.ntmps63
  go_wp2_with fail
  rw [HGG.out]
  generalize w.alloc (.cells (tab xs.length fun _ => .int .i64 0) 2) = W0 at *
  have HB := Lib.hid hb
  have HE := Lib.hid he
  clear hb he hmk
  go_loopw [13] (fun i wr => ∃ k : Nat, k ≤ xs.length ∧ i = .int .i64 (k : Int) ∧ Hid (Ex w wr) ∧ Hid (Has wr g 2 (tab xs.length fun p => .int .i64 (if p < k then V p else 0)))) (fun i _ => xs.length - (intOf i).toNat)
  case atStart => exact ⟨0, Nat.zero_le _, rfl, HE, Lib.hid (by simpa using HB.out)⟩
  case round =>
    obtain ⟨k, hk, rfl, HE1, HB1⟩ := hrel
    by_cases hlt : k < xs.length
    · obtain ⟨bx, ox, rfl, hbx, hcx⟩ := (HX.out.ex HE1.out).ints.at_ hlt
      have HC := Lib.hid (HF.out wr HE1.out k hlt)
      have hk0 : (0 : Int) ≤ (k : Int) := by omega
      have hkn : (k : Int) < (xs.length : Int) := by omega
      obtain ⟨x, hxx⟩ : ∃ x, nth xs k = x := ⟨_, rfl⟩
      obtain ⟨z, hz⟩ : ∃ z, V k = z := ⟨_, rfl⟩
      rw [hxx] at hcx HC
      rw [hz] at HC
      have HZ := Lib.hid hz
      have hegw := HEG.out
      clear hz hxx
      go_wp2_with fail
      refine HC.out.mono ?_
      rintro e' W2 ⟨rfl, he2⟩
      have HE2 := Lib.hid (HE1.out.trans he2)
      have HB2 := Lib.hid (HB1.out.ex he2)
      have c2 : W2.cell? ⟨g, k, none⟩ = some (.int .i64 (if k < k then V k else 0)) := by rw [HB2.out.cell, tab_get hlt]
      have f2 := HB2.out.free k
      have hgw : w.heap.size ≤ g := by have := HGG.out; omega
      clear hegw he2 hcx
      go_wp2_with fail
      go_roundw
      case rel =>
        refine ⟨k + 1, by omega, by go_num, Lib.hid (HE2.out.setCell (p := ⟨g, k, none⟩) hgw _), Lib.hid ?_⟩
        have h := HB2.out.put k (.int .i64 z)
        rw [tab_set hlt] at h
        refine Eq.mp (congrArg (fun f => Has _ g 2 f) (tab_congr fun p hp => ?_)) h
        by_cases hpk : p = k
        · subst hpk
          rw [if_pos rfl, if_pos (by omega), HZ.out]
        · rw [if_neg hpk]
          by_cases h2 : p < k
          · rw [if_pos h2, if_pos (by omega)]
          · rw [if_neg h2, if_neg (by omega)]
      case measure => simp [intOf]; omega
    · obtain rfl : k = xs.length := by omega
      go_wp2_with fail
      go_ret
      refine ⟨some ⟨g, 0, none⟩, _, by simp only [List.length_map, List.length_range]; rfl, HE1.out, OwnL.of_has (n := xs.length) (e := 2) ?_ (by simp) (by have := HGG.out; omega)⟩
      rw [tab_congr (g := fun p => .int .i64 (if p < xs.length then V p else 0)) (fun p hp => by simp [nth, hp])]
      exact HB1.out

end Go.Proofs.Ytcdijeeabgmgmaa

/- Are all numbers of a list below a number? -/
namespace Go.Proofs.Ytcdijeeabgmgmaa
open Go.RowKit

/-- Are all numbers of a list in 0 .. m - 1? -/
def belowB (m : Int) (xs : List Int) : Bool := xs.all fun x => inB x 0 (m - 1)
theorem belowB_iff {m : Int} {xs : List Int} : belowB m xs = true ↔ ∀ i, i < xs.length → inB (nth xs i) 0 (m - 1) = true := by
  simp only [belowB, List.all_eq_true]
  constructor
  · intro h i hi
    have : nth xs i = xs[i] := by simp [nth, hi]
    rw [this]
    exact h _ (List.getElem_mem hi)
  · intro h x hx
    obtain ⟨i, hi, rfl⟩ := List.getElem_of_mem hx
    have : nth xs i = xs[i] := by simp [nth, hi]
    rw [← this]
    exact h i hi
theorem belowB_at {m : Int} {xs : List Int} {i : Nat} (hi : i < xs.length) (h : inB (nth xs i) 0 (m - 1) = false) : belowB m xs = false := by
  cases hb : belowB m xs
  · rfl
  · rw [belowB_iff.1 hb i hi] at h
    cases h
theorem belowB_inR {M : Nat} {xs : List Int} (h : belowB (M : Int) xs = true) : InR M xs := fun i hi => by
  have := inB_true (belowB_iff.1 h i hi)
  omega

end Go.Proofs.Ytcdijeeabgmgmaa

/- A list of the call's own whose numbers are set one by one. -/
namespace Go.Proofs.Ytcdijeeabgmgmaa
open Go.RowKit

section
variable {a w w' : World} {lo b n : Nat} {v v' : Value} {xs : List Int} {T : TypeId} {cs : Array Value}
/-- Where it lies. -/
theorem GrowI.row (h : GrowI w lo v n xs) (hn : 0 < n) : ∃ g c, v = .slice (some ⟨g, 0, none⟩) n c ∧ lo ≤ g ∧ g < w.heap.size ∧ (∀ j, j < n → w.cell? ⟨g, j, none⟩ = some (.int .i64 (nth xs j))) ∧ ∀ j, w.frozen? ⟨g, j, none⟩ = false := by
  obtain ⟨g, c, rfl, hg, hl⟩ := h.1.form hn
  refine ⟨g, c, rfl, hg, hl, fun j hj => ?_, fun j => h.1.frozenAt j⟩
  rw [h.1.cellAt j (by omega)]
  have hj' : j < xs.length := by rw [h.2]; exact hj
  simp [nth, hj']
theorem GrowI.form (h : GrowI w lo v n xs) : ∃ A c, v = .slice A n c := by
  obtain ⟨A, c, rfl, _⟩ := h.own
  exact ⟨A, c, by rw [h.2]⟩
theorem GrowI.put {g c : Nat} (h : GrowI w lo (.slice (some ⟨g, 0, none⟩) n c) n xs) (j : Nat) (x : Int) : GrowI (w.setCell ⟨g, j, none⟩ (.int .i64 x)) lo (.slice (some ⟨g, 0, none⟩) n c) n (xs.set j x) := by
  refine ⟨?_, by simpa using h.2⟩
  rw [List.map_set]
  exact (h.1.stored j (.int .i64 x)).1
/-- A block of another type is another block. -/
theorem GrowI.apart {g c : Nat} (h : GrowI w lo (.slice (some ⟨g, 0, none⟩) n c) n xs) (hb : Has w b T cs) (hT : T ≠ 2) : b ≠ g := fun e => hb.not_row hT h (by rw [e]; rfl)
theorem nth_set_same {xs : List Int} {j : Nat} {x : Int} (h : j < xs.length) : nth (xs.set j x) j = x := by simp [nth, h]
theorem nth_set_other {xs : List Int} {i j : Nat} {x : Int} (h : i ≠ j) : nth (xs.set j x) i = nth xs i := by simp [nth, Ne.symm h]
theorem eq_of_nth {xs ys : List Int} (hl : xs.length = ys.length) (h : ∀ j, j < xs.length → nth xs j = nth ys j) : xs = ys := by
  refine List.ext_getElem hl fun i h1 h2 => ?_
  have := h i h1
  simpa [nth, h1, h2] using this
end

end Go.Proofs.Ytcdijeeabgmgmaa

/- A list that is changed in place, one element after the other. -/
namespace Go.Proofs.Ytcdijeeabgmgmaa
open Go.RowKit

theorem OwnL.at_ {w : World} {lo hi : Nat} {A : Option Addr} {xs : List Int} (h : OwnL w lo hi A xs) {j : Nat} (hj : j < xs.length) :
    ∃ b o, A = some ⟨b, o, none⟩ ∧ lo ≤ b ∧ b < hi ∧ w.cell? ⟨b, o + j, none⟩ = some (.int .i64 (nth xs j)) ∧ w.frozen? ⟨b, o + j, none⟩ = false := by
  obtain ⟨b, o, e, h1, h2, hc⟩ := h.2 (by omega)
  exact ⟨b, o, e, h1, h2, (hc j hj).1, (hc j hj).2⟩
theorem OwnL.put {w : World} {lo hi b o : Nat} {xs : List Int} (h : OwnL w lo hi (some ⟨b, o, none⟩) xs) {j : Nat} (hj : j < xs.length) (z : Int) : OwnL (w.setCell ⟨b, o + j, none⟩ (.int .i64 z)) lo hi (some ⟨b, o, none⟩) (xs.set j z) := by
  refine ⟨by simpa using h.1, fun hp => ?_⟩
  obtain ⟨b', o', e, h1, h2, hc⟩ := h.2 (by omega)
  simp only [Option.some.injEq, Addr.mk.injEq, and_true] at e
  obtain ⟨rfl, rfl⟩ := e
  refine ⟨_, _, rfl, h1, h2, fun i hi => ?_⟩
  rw [List.length_set] at hi
  obtain ⟨hf, hz⟩ := hc i hi
  by_cases hij : i = j
  · subst hij
    rw [nth_set_same hj]
    exact ⟨World.cell?_setCell_same' _ _ _ (by rw [hf]; rfl), (World.frozen?_setCell _ _ _ _).trans hz⟩
  · rw [nth_set_other hij]
    exact ⟨(World.cell?_setCell_other w ⟨_, _ + j, none⟩ ⟨_, _ + i, none⟩ _ (fun h => by injection h; omega)).trans hf, (World.frozen?_setCell _ _ _ _).trans hz⟩

/-- A list whose first q elements have been changed. -/
def upL (xs : List Int) (f : Nat → Int) (q : Nat) : List Int := (List.range xs.length).map fun p => if p < q then f p else nth xs p
section
variable {xs : List Int} {f : Nat → Int} {p q : Nat}
theorem upL_len (xs : List Int) (f : Nat → Int) (q : Nat) : (upL xs f q).length = xs.length := by simp [upL]
theorem upL_at (h : p < xs.length) : nth (upL xs f q) p = if p < q then f p else nth xs p := by simp [upL, nth, h]
theorem upL_zero (xs : List Int) (f : Nat → Int) : upL xs f 0 = xs := eq_of_nth (upL_len ..) fun j hj => by rw [upL_at (by rw [upL_len] at hj; exact hj), if_neg (by omega)]
theorem upL_all (xs : List Int) (f : Nat → Int) : upL xs f xs.length = (List.range xs.length).map f :=
  eq_of_nth (by rw [upL_len]; simp) fun j hj => by
    rw [upL_len] at hj
    rw [upL_at hj, if_pos hj]
    simp [nth, hj]
theorem upL_set (h : q < xs.length) : (upL xs f q).set q (f q) = upL xs f (q + 1) :=
  eq_of_nth (by rw [List.length_set, upL_len, upL_len]) fun i hi => by
    rw [List.length_set, upL_len] at hi
    rw [upL_at hi]
    by_cases hij : i = q
    · subst hij
      rw [nth_set_same (by rw [upL_len]; exact hi), if_pos (by omega)]
    · rw [nth_set_other hij, upL_at hi]
      by_cases h1 : i < q
      · rw [if_pos h1, if_pos (by omega)]
      · rw [if_neg h1, if_neg (by omega)]
end

end Go.Proofs.Ytcdijeeabgmgmaa

/- The rest of a number, of both sides, for a divisor of at most 12. -/
namespace Go.Proofs.Ytcdijeeabgmgmaa
open Go.RowKit

theorem restUp (x : Int) (m : Int) (hm : 0 < m) : (Int.tmod x m + m).tmod m = x % m := by
  have h0 := Int.emod_nonneg x (show m ≠ 0 by omega)
  have h1 := Int.emod_lt_of_pos x hm
  have h2 : Int.tmod x m + m = x % m ∨ Int.tmod x m + m = x % m + m := by
    rw [Int.tmod_eq_emod]
    split
    · right; omega
    · left; omega
  rcases h2 with e | e
  · rw [e, Int.tmod_eq_emod_of_nonneg h0, Int.emod_emod]
  · rw [e, Int.tmod_eq_emod_of_nonneg (by omega), Int.add_emod_right, Int.emod_emod]

theorem restIf (x : Int) (m : Int) (hm : 0 < m) : (Int.tmod x m < 0 ∧ Int.tmod x m + m = x % m) ∨ (¬ Int.tmod x m < 0 ∧ Int.tmod x m = x % m) := by
  have h0 := Int.emod_nonneg x (show m ≠ 0 by omega)
  have h1 := Int.emod_lt_of_pos x hm
  rw [Int.tmod_eq_emod]
  split
  · right; constructor <;> omega
  · left; constructor <;> omega

theorem tmodBound (x : Int) (m : Nat) (hm : 0 < m) (hm' : m ≤ 12) : -13 < Int.tmod x m ∧ Int.tmod x m < 12 := by
  have h0 := Int.emod_nonneg x (show (m : Int) ≠ 0 by omega)
  have h1 := Int.emod_lt_of_pos x (show 0 < (m : Int) by omega)
  rcases restIf x m (by omega) with ⟨h2, h3⟩ | ⟨h2, h3⟩ <;> omega

set_option maxHeartbeats 400000 in
theorem l01Mod_w (x : Int) (m : Nat) (w : World) (hm : 0 < m) (hm' : m ≤ 12) (_ : -1000000 ≤ x) (_ : x ≤ 1000000) :
    Calls Try.prog 60 #[.int .i64 x, .int .i64 (m : Int)] w fun e w' => e = .returned (.int .i64 (x % (m : Int))) ∧ w = w' := by
  have hb := tmodBound x m hm hm'
  have hw : wrap64 (Int.tmod x m + m) = Int.tmod x m + m := by unfold wrap64; omega
  go_enter Try.func60, Try.ntmps60
  go_wp2
  go_ret
  refine ⟨?_, rfl⟩
  simp only [restUp x m (by omega)]
  rfl
theorem l01Mod_ex (x : Int) (m : Nat) (w : World) (hm : 0 < m) (hm' : m ≤ 12) (h0 : -1000000 ≤ x) (h1 : x ≤ 1000000) :
    Calls Try.prog 60 #[.int .i64 x, .int .i64 (m : Int)] w fun e w' => e = .returned (.int .i64 (x % (m : Int))) ∧ Ex w w' := (l01Mod_w x m w hm hm' h0 h1).mono fun _ _ ⟨h2, h3⟩ => ⟨h2, Ex.of_eq' h3⟩

set_option maxHeartbeats 400000 in
theorem restOf_w (x : Int) (m : Nat) (w : World) (hm : 0 < m) (hm' : m ≤ 12) (_ : -1000000 ≤ x) (_ : x ≤ 1000000) :
    Calls Try.prog 65 #[.int .i64 x, .int .i64 (m : Int)] w fun e w' => e = .returned (.int .i64 (x % (m : Int))) ∧ w = w' := by
  have hb := tmodBound x m hm hm'
  have hw : wrap64 (Int.tmod x m + m) = Int.tmod x m + m := by unfold wrap64; omega
  rcases restIf x m (by omega) with ⟨g1, g2⟩ | ⟨g1, g2⟩
  · have g1' : decide (Int.tmod x m < 0) = true := by simp [g1]
    have G2 := Lib.hid g2
    have HW := Lib.hid hw
    clear g2 hw
    go_enter Try.func65, Try.ntmps65
    go_wp2
    go_ret
    refine ⟨?_, rfl⟩
    simp only [G2.out]
    rfl
  · have g1' : decide (Int.tmod x m < 0) = false := by simp [g1]
    have G2 := Lib.hid g2
    clear g2 hw
    go_enter Try.func65, Try.ntmps65
    go_wp2
    go_ret
    refine ⟨?_, rfl⟩
    simp only [G2.out]
    rfl

theorem mulBound {k : Int} {u : Nat} (h0 : -1000 ≤ k) (h1 : k ≤ 1000) (hu : u ≤ 12) : -12000 ≤ k * (u : Int) ∧ k * (u : Int) ≤ 12000 := by
  have : u = 0 ∨ u = 1 ∨ u = 2 ∨ u = 3 ∨ u = 4 ∨ u = 5 ∨ u = 6 ∨ u = 7 ∨ u = 8 ∨ u = 9 ∨ u = 10 ∨ u = 11 ∨ u = 12 := by omega
  rcases this with rfl | rfl | rfl | rfl | rfl | rfl | rfl | rfl | rfl | rfl | rfl | rfl | rfl <;> constructor <;> omega

end Go.Proofs.Ytcdijeeabgmgmaa

/- Inverses: both sides' search for them. -/
namespace Go.Proofs.Ytcdijeeabgmgmaa
open Go.RowKit

open Classical in
/-- The inverse of an element. -/
noncomputable def iv (t : List (List Int)) (a : Nat) : Nat := if h : ∃ b, b < t.length ∧ mul t a b = 0 then Classical.choose h else 0
section
variable {t : List (List Int)} (h : IsGrp t) {a : Nat} (ha : a < t.length)
include h ha
theorem iv_spec : iv t a < t.length ∧ mul t a (iv t a) = 0 := by
  have hex : ∃ b, b < t.length ∧ mul t a b = 0 := by
    obtain ⟨b, hb, h1, _⟩ := h.inv_ex ha
    exact ⟨b, hb, h1⟩
  unfold iv
  rw [dif_pos hex]
  exact Classical.choose_spec hex
theorem iv_only {b : Nat} (hb : b < t.length) (he : mul t a b = 0) : b = iv t a := h.left_cancel ha hb (iv_spec h ha).1 (he.trans (iv_spec h ha).2.symm)
theorem iv_ent : nth (row t a) (iv t a) = 0 := by
  rw [h.ent ha (iv_spec h ha).1, (iv_spec h ha).2]
  rfl
theorem iv_before {j : Nat} (hj : j < iv t a) : nth (row t a) j ≠ 0 := fun e => by
  have hjl : j < t.length := Nat.lt_trans hj (iv_spec h ha).1
  rw [h.ent ha hjl] at e
  have := iv_only h ha hjl (by omega)
  omega
end

theorem RwsW.sq {w : World} {A : Option Addr} {t : List (List Int)} (h : RwsW w A t) (hg : IsGrp t) : ∃ b o bb oo C, A = some ⟨b, o, none⟩ ∧ SqT w w.heap.size b o bb oo C t := h.rws.sq hg.n1 hg.sq
theorem SqT.ex {w w' : World} {b o : Nat} {bb oo C : Nat → Nat} {t : List (List Int)} (h : SqT w w.heap.size b o bb oo C t) (k : Ex w w') : SqT w' w.heap.size b o bb oo C t := h.below k.below (Nat.le_refl _)
theorem SqT.exB {w w' : World} {B b o : Nat} {bb oo C : Nat → Nat} {t : List (List Int)} (h : SqT w B b o bb oo C t) (k : Ex w w') (hB : B ≤ w.heap.size) : SqT w' B b o bb oo C t := h.below k.below hB

end Go.Proofs.Ytcdijeeabgmgmaa

/- Conjugates: both sides. -/
namespace Go.Proofs.Ytcdijeeabgmgmaa
open Go.RowKit

/-- c a c' -/
noncomputable def con (t : List (List Int)) (a c : Nat) : Nat := mul t (mul t c a) (iv t c)
theorem con_lt {t : List (List Int)} (h : IsGrp t) {a c : Nat} (ha : a < t.length) (hc : c < t.length) : con t a c < t.length := h.mul_lt (h.mul_lt hc ha) (iv_spec h hc).1

end Go.Proofs.Ytcdijeeabgmgmaa
