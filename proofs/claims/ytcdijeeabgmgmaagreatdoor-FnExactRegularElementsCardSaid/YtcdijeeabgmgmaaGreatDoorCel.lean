/- Ce Gr Col Ml Ab Gs Lp Ro Iv Cg in one text. -/
import Derived.RangeFuncBox
import Derived.OwnWalkIn
import Derived.IntWalk
import Derived.Laws.OwnMore
import Derived.Deep.AppendLies
import Derived.Deep.RegionHeld3
import Derived.Test.YtcdijeeabgmgmaaGreatDoorExv
import Derived.Test.YtcdijeeabgmgmaaGreatDoorOgr
import Derived.Test.YtcdijeeabgmgmaaGreatDoorBa
import Derived.Test.YtcdijeeabgmgmaaGreatDoorIsg
/- Counting cells: the powers of the order less 1. -/
namespace Go.Proofs.YtcdijeeabgmgmaaGreatDoor
open Go.RowKit

/-- The number of lists of j elements other than 0. -/
def cellsN (N j : Nat) : Nat := (N - 1) ^ j
theorem cellsN_le {N j : Nat} (hN : N ≤ 8) (hj : j ≤ 4) : cellsN N j ≤ 2401 :=
  Nat.le_trans (Nat.pow_le_pow_left (show N - 1 ≤ 7 by omega) j) (Nat.le_trans (Nat.pow_le_pow_right (show 0 < 7 by omega) hj) (by decide))
theorem cellsN_zero (N : Nat) : cellsN N 0 = 1 := rfl
theorem cellsN_succ (N j : Nat) : cellsN N (j + 1) = cellsN N j * (N - 1) := Nat.pow_succ ..

theorem l01N_ex (A : Option Addr) (n c : Nat) (w : World) (hn : n ≤ 1048576) :
    Calls Tryz.prog 40 #[.agg #[.slice A n c]] w fun e w' => e = .returned (.int .i64 n) ∧ Ex w w' := (l01N_any A n c w hn).mono fun _ _ ⟨h1, h2⟩ => ⟨h1, h2 ▸ Ex.new _ _⟩
theorem groupOrder_ex (A : Option Addr) (n c : Nat) (w : World) (hn : n ≤ 1048576) :
    Calls Tryz.prog 110 #[.agg #[.slice A n c]] w fun e w' => e = .returned (.int .i64 n) ∧ Ex w w' := (groupOrder_any A n c w hn).mono fun _ _ ⟨h1, h2⟩ => ⟨h1, h2 ▸ Ex.new _ _⟩

set_option maxHeartbeats 800000 in
theorem l03Cells_any (A : Option Addr) (N c n : Nat) (w : World) (hN : N ≤ 8) (hN1 : 1 ≤ N) (hn : n ≤ 4) :
    Calls Tryz.prog 84 #[.agg #[.slice A N c], .int .i64 (n : Int)] w fun e w' => e = .returned (.int .i64 (cellsN N n : Int)) ∧ Ex w w' := by
  have e0 := Ex.new w (.cells #[.slice A N c] 32)
  have HB := Lib.hid (Has.new w 32 #[.slice A N c])
  obtain ⟨B, hB⟩ : ∃ B, N - 1 = B := ⟨_, rfl⟩
  have hB' : (N : Int) - 1 = (B : Int) := by omega
  have HBN := Lib.hid hB
  go_enter Tryz.func84, Tryz.ntmps84
  go_wp2_with fail
  generalize (w.alloc (.cells #[.slice A N c] 32)) = W at *
  go_loopw [1, 5] (fun i q wr => ∃ k p : Nat, k ≤ n ∧ i = .int .i64 (k : Int) ∧ q = .int .i64 (p : Int) ∧ Hid (p = cellsN N (n - k)) ∧ Hid (Ex W wr)) (fun i _ _ => (intOf i).toNat)
  case atStart => exact ⟨n, 1, Nat.le_refl _, rfl, rfl, Lib.hid (by rw [Nat.sub_self, cellsN_zero]), Lib.hid (Ex.refl _)⟩
  case round =>
    obtain ⟨k, p, hk, rfl, rfl, HP, HE⟩ := hrel
    have hcell := (HB.out.ex HE.out).cell 0
    by_cases hlt : 0 < k
    · have hle : p * B ≤ 2401 := by
        rw [HP.out, ← HBN.out, ← cellsN_succ]
        exact cellsN_le hN (by omega)
      have hle2 : p ≤ 2401 := by rw [HP.out]; exact cellsN_le hN (by omega)
      obtain ⟨z, hz⟩ : ∃ z, p * B = z := ⟨_, rfl⟩
      have hp : (p : Int) * (B : Int) = (z : Int) := by rw [← hz]; simp
      have HZ : Hid (z = cellsN N (n - (k - 1))) := Lib.hid (by rw [show n - (k - 1) = n - k + 1 by omega, cellsN_succ, ← HP.out, HBN.out, hz])
      rw [hz] at hle
      clear hz hB
      go_wp2_with (go_at_call 40; refine (l01N_ex A N c _ (by omega)).mono ?_; rintro e w' ⟨rfl, he⟩; have HE := Lib.hid (HE.out.trans he); clear he)
      go_roundw
      case rel => exact ⟨k - 1, z, by omega, by go_num, rfl, HZ, HE⟩
      case measure => simp [intOf]; omega
    · obtain rfl : k = 0 := by omega
      go_wp2_with fail
      go_ret
      exact ⟨by rw [HP.out]; rfl, e0.trans HE.out⟩

set_option maxHeartbeats 800000 in
theorem cellCount_any (A : Option Addr) (N c n : Nat) (w : World) (hN : N ≤ 8) (hN1 : 1 ≤ N) (hn : n ≤ 4) :
    Calls Tryz.prog 95 #[.agg #[.slice A N c], .int .i64 (n : Int)] w fun e w' => e = .returned (.int .i64 (cellsN N n : Int)) ∧ Ex w w' := by
  have e0 := Ex.new w (.cells #[.slice A N c] 32)
  have HB := Lib.hid (Has.new w 32 #[.slice A N c])
  obtain ⟨B, hB⟩ : ∃ B, N - 1 = B := ⟨_, rfl⟩
  have hB' : (N : Int) - 1 = (B : Int) := by omega
  have HBN := Lib.hid hB
  go_enter Tryz.func95, Tryz.ntmps95
  go_wp2_with fail
  generalize (w.alloc (.cells #[.slice A N c] 32)) = W at *
  go_loopw [5, 7] (fun q i wr => ∃ k p : Nat, k ≤ n ∧ i = .int .i64 (k : Int) ∧ q = .int .i64 (p : Int) ∧ Hid (p = cellsN N k) ∧ Hid (Ex W wr)) (fun _ i _ => n - (intOf i).toNat)
  case atStart => exact ⟨0, 1, Nat.zero_le _, rfl, rfl, Lib.hid rfl, Lib.hid (Ex.refl _)⟩
  case round =>
    obtain ⟨k, p, hk, rfl, rfl, HP, HE⟩ := hrel
    have hcell := (HB.out.ex HE.out).cell 0
    by_cases hlt : k < n
    · have hle : p * B ≤ 2401 := by
        rw [HP.out, ← HBN.out, ← cellsN_succ]
        exact cellsN_le hN (by omega)
      have hle2 : p ≤ 2401 := by rw [HP.out]; exact cellsN_le hN (by omega)
      obtain ⟨z, hz⟩ : ∃ z, p * B = z := ⟨_, rfl⟩
      have hp : (p : Int) * (B : Int) = (z : Int) := by rw [← hz]; simp
      have HZ : Hid (z = cellsN N (k + 1)) := Lib.hid (by rw [cellsN_succ, ← HP.out, HBN.out, hz])
      rw [hz] at hle
      clear hz hB
      go_wp2_with (go_at_call 110; refine (groupOrder_ex A N c _ (by omega)).mono ?_; rintro e w' ⟨rfl, he⟩; have HE := Lib.hid (HE.out.trans he); clear he)
      go_roundw
      case rel => exact ⟨k + 1, z, by omega, by go_num, rfl, HZ, HE⟩
      case measure => simp [intOf]; omega
    · obtain rfl : k = n := by omega
      go_wp2_with fail
      go_ret
      exact ⟨by rw [HP.out]; rfl, e0.trans HE.out⟩

/-- Is a number in a range? -/
def inB (n lo hi : Int) : Bool := decide (lo ≤ n) && decide (n ≤ hi)
theorem inB_true {n lo hi : Int} (h : inB n lo hi = true) : lo ≤ n ∧ n ≤ hi := by simpa [inB] using h
theorem inB_false {n lo hi : Int} (h : inB n lo hi = false) : n < lo ∨ hi < n := by
  have h' : ¬ (lo ≤ n ∧ n ≤ hi) := fun h2 => by simp [inB, h2.1, h2.2] at h
  omega
theorem inB_of {n lo hi : Int} (h0 : lo ≤ n) (h1 : n ≤ hi) : inB n lo hi = true := by simp [inB, h0, h1]
theorem inB_out {n lo hi : Int} (h : n < lo ∨ hi < n) : inB n lo hi = false := by
  cases hb : inB n lo hi
  · rfl
  · have := inB_true hb
    omega
theorem l01In_ex (n lo hi : Int) (w : World) : Calls Tryz.prog 66 #[.int .i64 n, .int .i64 lo, .int .i64 hi] w fun e w' => e = .returned (.bool (inB n lo hi)) ∧ w = w' := by
  cases hb : inB n lo hi
  · exact l01In_no n lo hi w (inB_false hb)
  · exact l01In_yes n lo hi w (inB_true hb).1 (inB_true hb).2

theorem l01Is_ex (A : Option Addr) (t : List (List Int)) (c : Nat) (w : World) (hR : RwsW w A t) (hs : SmallT t) :
    Calls Tryz.prog 65 #[.agg #[.slice A t.length c]] w fun e w' => e = .returned (.bool (grpB t)) ∧ Ex w w' := l01Is_any A t c w.heap.size w hR.rws (Nat.le_refl _) hs.1 hs.2
theorem implIsGroup_ex (A : Option Addr) (t : List (List Int)) (c : Nat) (w : World) (hR : RwsW w A t) (hs : SmallT t) :
    Calls Tryz.prog 79 #[.agg #[.slice A t.length c]] w fun e w' => e = .returned (.bool (grpB t)) ∧ Ex w w' := implIsGroup_any A t c w.heap.size w hR.rws (Nat.le_refl _) hs.1 hs.2

theorem isDegree_yes (n : Int) (w : World) (h0 : 0 ≤ n) (h1 : n ≤ 3) :
    Calls Tryz.prog 124 #[.int .i64 n] w fun e w' => e = .returned (.bool true) ∧ w = w' := by
  go_enter Tryz.func124, Tryz.ntmps124
  go_wp2
  go_ret
  exact ⟨rfl, rfl⟩
theorem isDegree_no (n : Int) (w : World) (h : n < 0 ∨ 3 < n) :
    Calls Tryz.prog 124 #[.int .i64 n] w fun e w' => e = .returned (.bool false) ∧ w = w' := by
  rcases h with h | h
  · have h' : ¬ 0 ≤ n := by omega
    go_enter Tryz.func124, Tryz.ntmps124
    go_wp2
    go_ret
    exact ⟨rfl, rfl⟩
  · have h' : 0 ≤ n := by omega
    have h'' : ¬ n ≤ 3 := by omega
    go_enter Tryz.func124, Tryz.ntmps124
    go_wp2
    go_ret
    exact ⟨rfl, rfl⟩

theorem isDegree_ex (n : Int) (w : World) : Calls Tryz.prog 124 #[.int .i64 n] w fun e w' => e = .returned (.bool (inB n 0 3)) ∧ w = w' := by
  cases hb : inB n 0 3
  · exact isDegree_no n w (inB_false hb)
  · exact isDegree_yes n w (inB_true hb).1 (inB_true hb).2

theorem l01In_e (n lo hi : Int) (w : World) : Calls Tryz.prog 66 #[.int .i64 n, .int .i64 lo, .int .i64 hi] w fun e w' => e = .returned (.bool (inB n lo hi)) ∧ Ex w w' := (l01In_ex n lo hi w).mono fun _ _ ⟨h1, h2⟩ => ⟨h1, Ex.of_eq' h2⟩
theorem isDegree_e (n : Int) (w : World) : Calls Tryz.prog 124 #[.int .i64 n] w fun e w' => e = .returned (.bool (inB n 0 3)) ∧ Ex w w' := (isDegree_ex n w).mono fun _ _ ⟨h1, h2⟩ => ⟨h1, Ex.of_eq' h2⟩

end Go.Proofs.YtcdijeeabgmgmaaGreatDoor

/- A list of the call's own that grows by append. -/
namespace Go.Proofs.YtcdijeeabgmgmaaGreatDoor
open Go.RowKit

/-- A list that grows: the value v owns the n numbers xs, in a block from lo on. -/
def GrowI (w : World) (lo : Nat) (v : Value) (n : Nat) (xs : List Int) : Prop := w.ownsRow lo 2 1 v n (xs.map fun x => .int .i64 x) ∧ xs.length = n

section
variable {a w w' : World} {lo b n : Nat} {v v' : Value} {xs : List Int} {T : TypeId} {cs : Array Value}
theorem GrowI.ex (h : GrowI w lo v n xs) (k : Ex w w') : GrowI w' lo v n xs := ⟨own_below h.1 k, h.2⟩
theorem GrowI.nil (w : World) (lo : Nat) : GrowI w lo (.slice none 0 0) 0 [] := ⟨World.ownsRow_nil _ _ _ _, rfl⟩
theorem GrowI.empty (w : World) (h : lo ≤ w.heap.size) : GrowI (w.alloc (.cells #[] 2)) lo (.slice (some ⟨w.heap.size, 0, none⟩) 0 0) 0 [] := ⟨own_empty w lo _ h, rfl⟩
theorem Has.not_row (h : Has w b T cs) (hT : T ≠ 2) (ho : GrowI w lo v n xs) : some b ≠ v.ownBlock := by
  rcases ho.1.2 with ⟨rfl, _⟩ | ⟨g, cap, cur, rfl, _, hgb, _⟩
  · simp [Value.ownBlock]
  · intro e'
    obtain rfl : b = g := by simpa [Value.ownBlock] using e'
    have := (show w.heap[b]? = _ from h).symm.trans hgb
    simp at this
    exact hT this.2
theorem GrowI.kept (h : GrowI w lo v n xs) (hb : Has w b T cs) (hT : T ≠ 2) (hg : w.grownBy w' (some b)) : GrowI w' lo v n xs :=
  ⟨h.1.kept hg (.inr fun e => hb.not_row hT h e.symm), h.2⟩
theorem grownBy_set (w : World) (b o : Nat) (u : Value) : w.grownBy (w.setCell ⟨b, o, none⟩ u) (some b) :=
  ⟨rfl, rfl, rfl, (KeepsWalks.setCell w _ u).size, fun k _ hk => Below.heap_setCell _ _ _ k (fun e => hk (by rw [e]))⟩
theorem GrowI.set (h : GrowI w lo v n xs) (hb : Has w b T cs) (hT : T ≠ 2) (o : Nat) (u : Value) : GrowI (w.setCell ⟨b, o, none⟩ u) lo v n xs := h.kept hb hT (grownBy_set w b o u)
theorem Has.grew (h : Has w b T cs) (hT : T ≠ 2) (ho : GrowI w lo v n xs) (hg : w.grownBy w' v.ownBlock) : Has w' b T cs := (hg.block b h.lt (h.not_row hT ho)).trans h
theorem Ex.grew (h : Ex a w) (ho : GrowI w lo v n xs) (hl : a.heap.size ≤ lo) (hg : w.grownBy w' v.ownBlock) : Ex a w' :=
  Below.grown h.below hg h.size fun k hk => Nat.le_trans hl (ho.1.lt k hk).1
theorem GrowI.snoc {x : Int} (h : GrowI w lo v n xs) (ho : w'.ownsRow lo 2 1 v' (n + 1) ((xs.map fun x => .int .i64 x) ++ [.int .i64 x])) : GrowI w' lo v' (n + 1) (xs ++ [x]) :=
  ⟨by rw [List.map_append]; exact ho, by rw [List.length_append, h.2]; rfl⟩
theorem GrowI.own (h : GrowI w lo v n xs) : ∃ A c, v = .slice A xs.length c ∧ OwnL w lo w.heap.size A xs := by
  obtain ⟨h, rfl⟩ := h
  rcases h.2 with ⟨rfl, h0⟩ | ⟨g, cap, cur, rfl, hg, hh, hr1, hr2, hr3, hr4⟩
  · exact ⟨none, 0, by rw [h0], Nat.le_refl _, fun hp => by omega⟩
  · refine ⟨some ⟨g, 0, none⟩, cap, rfl, Nat.le_refl _, fun _ => ⟨g, 0, rfl, hg, (Array.getElem?_eq_some_iff.1 hh).1, fun j hj => ?_⟩⟩
    have h1 : w.cell? ⟨g, j, none⟩ = cur[j]? := cell_of_row w g j cur 2 (0, 0) hh
    rw [Nat.zero_add, h1]
    have h2 : cur[j]? = some (.int .i64 (nth xs j)) := by
      have h3 : (cur.toList.take (xs.length * 1))[j]? = some (.int .i64 (nth xs j)) := by
        rw [hr4]
        simp [nth, hj]
      rw [List.getElem?_take_of_lt (by omega)] at h3
      simpa using h3
    exact ⟨h2, by simp [World.frozen?, hh]⟩
end

end Go.Proofs.YtcdijeeabgmgmaaGreatDoor

/- slices.Collect over the elements of a group; what homomorphisms lead to. -/
namespace Go.Proofs.YtcdijeeabgmgmaaGreatDoor
open Go.RowKit Go.Shelf

attribute [local go_sem] Oper.semAt_some

/-- The elements. -/
def elems (N : Nat) : List Int := (List.range N).map fun k : Nat => (k : Int)
theorem elems_length (N : Nat) : (elems N).length = N := by simp [elems]
theorem finRange_elems (N : Nat) : (List.finRange N).map (fun x : Fin N => Value.int .i64 (x.val : Int)) = (elems N).map fun x => .int .i64 x := by
  apply List.ext_getElem
  · simp [elems]
  · intro i h1 h2
    simp [elems]

set_option maxRecDepth 100000 in
set_option maxHeartbeats 1000000 in
theorem appendSeq_any (Bg N c : Nat) (A : Option Addr) (w : World) (hBg : Bg < w.heap.size) (hc : w.cell? ⟨Bg, 0, none⟩ = some (.slice A N c)) (hN : N ≤ 1048576) :
    Calls Tryz.prog 111 #[.slice none 0 0, .func (.func 109) #[] #[.pointer (some ⟨Bg, 0, none⟩)]] w fun e w' => ∃ A' c', e = .returned (.slice A' N c') ∧ Below w.heap.size w w' ∧ OwnI w' w.heap.size A' (elems N) := by
  obtain ⟨i0, hi, hi0, hi1, hi2⟩ := info_parts infoI
  refine (callsIn_wide (n := 8)).1 ?_
  refine callsIn_of_wp_marks Tryz.func111 rfl trivial ?_ rfl
  simp only [Tryz.ntmps111, List.size_toArray, List.length_cons, List.length_nil, Nat.reduceAdd, Nat.reduceSub, Array.replicate_succ, Array.replicate_zero, List.push_toArray, List.append_toArray, List.nil_append, List.cons_append]
  have bS := Boxed.new w 25 (.slice none 0 0)
  have hB0 : Below w.heap.size w (w.alloc (.cells #[.slice none 0 0] 25)) := (Below.refl _ w).alloc (Nat.le_refl _) _
  have hz0 : (w.alloc (.cells #[.slice none 0 0] 25)).heap.size = w.heap.size + 1 := by simp
  have hcg : (w.alloc (.cells #[.slice none 0 0] 25)).cell? ⟨Bg, 0, none⟩ = some (.slice A N c) := (hB0.cell (p := ⟨Bg, 0, none⟩) hBg).trans hc
  clear hc
  gi_wp2_with fail
  obtain ⟨W0, hW0⟩ : ∃ W0, w.alloc (.cells #[.slice none 0 0] 25) = W0 := ⟨_, rfl⟩
  rw [hW0] at bS hB0 hz0 hcg ⊢
  clear hW0
  refine range_top (n := 8) (n₀ := w.heap.size) (by omega) (gf := 109) (lb := #[.pointer (some ⟨Bg, 0, none⟩)]) rfl (enters_of Tryz.func109 (by kernel_rfl) rfl)
    (elements_stops 7 (by omega) Bg w.heap.size N c A W0 (by omega) hcg hN) (by omega) (fun _ => rfl)
    (fun pre W => ∃ v, Boxed W w.heap.size 25 v ∧ W.ownsRow w.heap.size 2 1 v pre.length (pre.map fun x : Fin N => Value.int .i64 (x.val : Int)) ∧ True)
    (fun c' _ W => False)
    (Own.from (holdsRow_own w.heap.size w.heap.size 25 2 1 (fun pre : List (Fin N) => pre.length) (fun pre => pre.map fun x : Fin N => Value.int .i64 (x.val : Int)) (fun _ _ => True)) _)
    (fun _ => ownFrom_pure _ _)
    ⟨_, bS, ⟨rfl, .inl ⟨rfl, rfl⟩⟩, trivial⟩ ?round ?done ?stop
  case round =>
    intro l x W K hK
    have HK := Lib.hid hK
    clear hK
    gi_wp2
    refine HK.out _ ?_
    clear HK
    rintro l pre W hr ⟨v, bS1, hown, _⟩ hKW hlt
    obtain ⟨k, hk⟩ := x
    have hle := hKW.size
    have HOWN := Lib.hid hown
    have HBS := Lib.hid bS1
    have hbox := bS1.cell
    clear hown bS1 hKW
    have hkn : pre.length + 1 ≤ 1048576 := by omega
    gi_wp2_with (gi_at_builtin; refine wpListIn_append_own _ rfl _ _ 25 rfl w.heap.size 2 i0 (.int .i64 0) 1 8 Tryz.underlying25 hi hi0 hi1 hi2 rfl (by decide) _ _ _ rfl (HOWN.out.alloc _) ⟨W.heap.size, 0, none⟩ 1 1 [.int .i64 (k : Int)] rfl rfl (cell_one_new _ _ _) (by simp [Value.oneCell']) (by unfold maxLen; omega) (by omega) (by simp; omega) ?_; intro v' w3 hown3 hgrow3 _; obtain ⟨f1, f2, f3, f4, f5⟩ := HBS.out.appended (by decide) HOWN.out (by omega) (Nat.le_refl _) hown3 hgrow3; obtain ⟨g3, cap3, rfl⟩ := ownsRow_succ hown3; have hc3 := f1.cell; have hz3 := f1.frozen)
    exact ⟨⟨f5, f4.from 0⟩, _, f2, by rw [List.length_append, List.map_append]; exact f3⟩
  case done =>
    rintro D xs W hD rfl ⟨v, bS1, hown, _⟩ hKW hK
    have HKW := Lib.hid hKW
    have hle := hKW.size
    have hown8 := ownsRow_putObj hown (.deferred none) hK rfl
    rw [finRange_elems] at hown hown8
    simp only [List.length_finRange] at hown hown8
    obtain ⟨A', c', rfl, _⟩ := own_ints hown (elems_length N) (by omega) (by omega)
    have hszD : (W.putObj D (.deferred none)).heap.size = W.heap.size := by simp [World.putObj]
    obtain ⟨A8, c8, e8, hO8⟩ := own_ints hown8 (elems_length N) (by omega) (by omega)
    cases e8
    have hO := hO8 (.inl (by omega))
    have HO := Lib.hid hO
    have hbz := Lib.hid (belowK_b (w := w) (Nat.le_refl _) W D _ (.deferred none) (by omega) hK rfl rfl)
    rw [elems_length] at bS1
    have hbox := bS1.cell
    clear hKW hown hown8 hO hO8 hszD
    gi_wp2
    refine ⟨by simp, .inl ⟨_, _, rfl, run_takeDeferred hK, ?_⟩⟩
    refine ⟨.slice A' N c', ?_, A', c', rfl, (hB0.trans HKW.out.1).trans hbz.out, HO.out⟩
    simp [results, Tryz.f111, go_sem]
  case stop =>
    rintro D c' pre W hD hpre h
    exact h.elim

set_option maxHeartbeats 400000 in
theorem collect_any (Bg N c : Nat) (A : Option Addr) (w : World) (hBg : Bg < w.heap.size) (hc : w.cell? ⟨Bg, 0, none⟩ = some (.slice A N c)) (hN : N ≤ 1048576) :
    Calls Tryz.prog 76 #[.func (.func 109) #[] #[.pointer (some ⟨Bg, 0, none⟩)]] w fun e w' => ∃ A' c', e = .returned (.slice A' N c') ∧ Below w.heap.size w w' ∧ OwnI w' w.heap.size A' (elems N) := by
  have HC := Lib.hid (appendSeq_any Bg N c A w hBg hc hN)
  clear hc
  go_enter Tryz.func76, Tryz.ntmps76
  go_wp2_with fail
  refine HC.out.mono ?_
  rintro e W1 ⟨A', c', rfl, hb, hO⟩
  have HB := Lib.hid hb
  have HO := Lib.hid hO
  clear hb hO
  go_wp2
  go_ret
  exact ⟨A', c', rfl, HB.out, HO.out⟩

end Go.Proofs.YtcdijeeabgmgmaaGreatDoor

/- mappedList: a list with each element mapped by a closure, whatever closure. -/
namespace Go.Proofs.YtcdijeeabgmgmaaGreatDoor
open Go.RowKit

end Go.Proofs.YtcdijeeabgmgmaaGreatDoor

/- Are all numbers of a list below a number? -/
namespace Go.Proofs.YtcdijeeabgmgmaaGreatDoor
open Go.RowKit

/-- Are all numbers of a list in 0 .. m - 1? -/
def belowB (m : Int) (xs : List Int) : Bool := xs.all fun x => inB x 0 (m - 1)
theorem belowB_iff {m : Int} {xs : List Int} : belowB m xs = true ↔ ∀ i, i < xs.length → inB (nth xs i) 0 (m - 1) = true := by
  simp only [belowB, List.all_eq_true]
  constructor
  · intro h i hi
    have : nth xs i = xs[i] := by simp [nth, hi]
    rw [this]
    exact h _ (List.getElem_mem hi)
  · intro h x hx
    obtain ⟨i, hi, rfl⟩ := List.getElem_of_mem hx
    have : nth xs i = xs[i] := by simp [nth, hi]
    rw [← this]
    exact h i hi
theorem belowB_at {m : Int} {xs : List Int} {i : Nat} (hi : i < xs.length) (h : inB (nth xs i) 0 (m - 1) = false) : belowB m xs = false := by
  cases hb : belowB m xs
  · rfl
  · rw [belowB_iff.1 hb i hi] at h
    cases h
theorem belowB_inR {M : Nat} {xs : List Int} (h : belowB (M : Int) xs = true) : InR M xs := fun i hi => by
  have := inB_true (belowB_iff.1 h i hi)
  omega

set_option maxHeartbeats 1000000 in
theorem areBelow_any (A : Option Addr) (m : Int) (xs : List Int) (c : Nat) (w : World) (hX : IntsW w A xs) (hn : xs.length ≤ 1048576) (hm : 0 ≤ m) (hm2 : m ≤ 1048576) :
    Calls Tryz.prog 125 #[.int .i64 m, .slice A xs.length c] w fun e w' => e = .returned (.bool (belowB m xs)) ∧ Ex w w' := by
  have HX := Lib.hid hX
  clear hX
  go_enter Tryz.func125, Tryz.ntmps125
  go_wp2_with fail
  go_loop [9] (fun i => ∃ k : Nat, k ≤ xs.length ∧ i = .int .i64 (k : Int) ∧ Hid (∀ j, j < k → inB (nth xs j) 0 (m - 1) = true)) (fun i => xs.length - (intOf i).toNat)
  case atStart => exact ⟨0, Nat.zero_le _, rfl, Lib.hid fun j hj => absurd hj (by omega)⟩
  case round =>
    obtain ⟨k, hk, rfl, HS⟩ := hrel
    by_cases hlt : k < xs.length
    · obtain ⟨bx, ox, rfl, hbx, hcx⟩ := HX.out.ints.at_ hlt
      cases hq : inB (nth xs k) 0 (m - 1) with
      | true =>
        obtain ⟨h0, h1⟩ := inB_true hq
        have h2 : nth xs k < m := by omega
        have HQ := Lib.hid hq
        clear hq
        generalize hx : nth xs k = x at *
        have HXX := Lib.hid hx
        clear hx h1
        go_wp2_with fail
        go_round
        case rel => exact ⟨k + 1, by omega, by go_num, Lib.hid fun j hj => by
          rcases Nat.lt_or_ge j k with h | h
          · exact HS.out j h
          · obtain rfl : j = k := by omega
            rw [HXX.out]
            exact HQ.out⟩
        case measure => simp [intOf]; omega
      | false =>
        have HB := Lib.hid (belowB_at hlt hq)
        rcases inB_false hq with h | h
        · have HQ := Lib.hid hq
          clear hq
          generalize nth xs k = x at *
          go_wp2_with fail
          go_ret
          exact ⟨by rw [HB.out]; rfl, Ex.refl _⟩
        · have h2 : m ≤ nth xs k := by omega
          have h3 : 0 ≤ nth xs k := by omega
          have HQ := Lib.hid hq
          clear hq h
          generalize nth xs k = x at *
          go_wp2_with fail
          go_ret
          exact ⟨by rw [HB.out]; rfl, Ex.refl _⟩
    · obtain rfl : k = xs.length := by omega
      go_wp2_with fail
      go_ret
      exact ⟨by rw [belowB_iff.2 HS.out]; rfl, Ex.refl _⟩

end Go.Proofs.YtcdijeeabgmgmaaGreatDoor

/- A list of the call's own whose numbers are set one by one. -/
namespace Go.Proofs.YtcdijeeabgmgmaaGreatDoor
open Go.RowKit

section
variable {a w w' : World} {lo b n : Nat} {v v' : Value} {xs : List Int} {T : TypeId} {cs : Array Value}
/-- Where it lies. -/
theorem GrowI.row (h : GrowI w lo v n xs) (hn : 0 < n) : ∃ g c, v = .slice (some ⟨g, 0, none⟩) n c ∧ lo ≤ g ∧ g < w.heap.size ∧ (∀ j, j < n → w.cell? ⟨g, j, none⟩ = some (.int .i64 (nth xs j))) ∧ ∀ j, w.frozen? ⟨g, j, none⟩ = false := by
  obtain ⟨g, c, rfl, hg, hl⟩ := h.1.form hn
  refine ⟨g, c, rfl, hg, hl, fun j hj => ?_, fun j => h.1.frozenAt j⟩
  rw [h.1.cellAt j (by omega)]
  have hj' : j < xs.length := by rw [h.2]; exact hj
  simp [nth, hj']
theorem GrowI.form (h : GrowI w lo v n xs) : ∃ A c, v = .slice A n c := by
  obtain ⟨A, c, rfl, _⟩ := h.own
  exact ⟨A, c, by rw [h.2]⟩
theorem GrowI.put {g c : Nat} (h : GrowI w lo (.slice (some ⟨g, 0, none⟩) n c) n xs) (j : Nat) (x : Int) : GrowI (w.setCell ⟨g, j, none⟩ (.int .i64 x)) lo (.slice (some ⟨g, 0, none⟩) n c) n (xs.set j x) := by
  refine ⟨?_, by simpa using h.2⟩
  rw [List.map_set]
  exact (h.1.stored j (.int .i64 x)).1
/-- A block of another type is another block. -/
theorem GrowI.apart {g c : Nat} (h : GrowI w lo (.slice (some ⟨g, 0, none⟩) n c) n xs) (hb : Has w b T cs) (hT : T ≠ 2) : b ≠ g := fun e => hb.not_row hT h (by rw [e]; rfl)
theorem nth_set_same {xs : List Int} {j : Nat} {x : Int} (h : j < xs.length) : nth (xs.set j x) j = x := by simp [nth, h]
theorem nth_set_other {xs : List Int} {i j : Nat} {x : Int} (h : i ≠ j) : nth (xs.set j x) i = nth xs i := by simp [nth, Ne.symm h]
theorem eq_of_nth {xs ys : List Int} (hl : xs.length = ys.length) (h : ∀ j, j < xs.length → nth xs j = nth ys j) : xs = ys := by
  refine List.ext_getElem hl fun i h1 h2 => ?_
  have := h i h1
  simpa [nth, h1, h2] using this
end

end Go.Proofs.YtcdijeeabgmgmaaGreatDoor

/- A list that is changed in place, one element after the other. -/
namespace Go.Proofs.YtcdijeeabgmgmaaGreatDoor
open Go.RowKit

theorem OwnL.at_ {w : World} {lo hi : Nat} {A : Option Addr} {xs : List Int} (h : OwnL w lo hi A xs) {j : Nat} (hj : j < xs.length) :
    ∃ b o, A = some ⟨b, o, none⟩ ∧ lo ≤ b ∧ b < hi ∧ w.cell? ⟨b, o + j, none⟩ = some (.int .i64 (nth xs j)) ∧ w.frozen? ⟨b, o + j, none⟩ = false := by
  obtain ⟨b, o, e, h1, h2, hc⟩ := h.2 (by omega)
  exact ⟨b, o, e, h1, h2, (hc j hj).1, (hc j hj).2⟩
theorem OwnL.put {w : World} {lo hi b o : Nat} {xs : List Int} (h : OwnL w lo hi (some ⟨b, o, none⟩) xs) {j : Nat} (hj : j < xs.length) (z : Int) : OwnL (w.setCell ⟨b, o + j, none⟩ (.int .i64 z)) lo hi (some ⟨b, o, none⟩) (xs.set j z) := by
  refine ⟨by simpa using h.1, fun hp => ?_⟩
  obtain ⟨b', o', e, h1, h2, hc⟩ := h.2 (by omega)
  simp only [Option.some.injEq, Addr.mk.injEq, and_true] at e
  obtain ⟨rfl, rfl⟩ := e
  refine ⟨_, _, rfl, h1, h2, fun i hi => ?_⟩
  rw [List.length_set] at hi
  obtain ⟨hf, hz⟩ := hc i hi
  by_cases hij : i = j
  · subst hij
    rw [nth_set_same hj]
    exact ⟨World.cell?_setCell_same' _ _ _ (by rw [hf]; rfl), (World.frozen?_setCell _ _ _ _).trans hz⟩
  · rw [nth_set_other hij]
    exact ⟨(World.cell?_setCell_other w ⟨_, _ + j, none⟩ ⟨_, _ + i, none⟩ _ (fun h => by injection h; omega)).trans hf, (World.frozen?_setCell _ _ _ _).trans hz⟩

/-- A list whose first q elements have been changed. -/
def upL (xs : List Int) (f : Nat → Int) (q : Nat) : List Int := (List.range xs.length).map fun p => if p < q then f p else nth xs p
section
variable {xs : List Int} {f : Nat → Int} {p q : Nat}
theorem upL_len (xs : List Int) (f : Nat → Int) (q : Nat) : (upL xs f q).length = xs.length := by simp [upL]
theorem upL_at (h : p < xs.length) : nth (upL xs f q) p = if p < q then f p else nth xs p := by simp [upL, nth, h]
theorem upL_zero (xs : List Int) (f : Nat → Int) : upL xs f 0 = xs := eq_of_nth (upL_len ..) fun j hj => by rw [upL_at (by rw [upL_len] at hj; exact hj), if_neg (by omega)]
theorem upL_all (xs : List Int) (f : Nat → Int) : upL xs f xs.length = (List.range xs.length).map f :=
  eq_of_nth (by rw [upL_len]; simp) fun j hj => by
    rw [upL_len] at hj
    rw [upL_at hj, if_pos hj]
    simp [nth, hj]
theorem upL_set (h : q < xs.length) : (upL xs f q).set q (f q) = upL xs f (q + 1) :=
  eq_of_nth (by rw [List.length_set, upL_len, upL_len]) fun i hi => by
    rw [List.length_set, upL_len] at hi
    rw [upL_at hi]
    by_cases hij : i = q
    · subst hij
      rw [nth_set_same (by rw [upL_len]; exact hi), if_pos (by omega)]
    · rw [nth_set_other hij, upL_at hi]
      by_cases h1 : i < q
      · rw [if_pos h1, if_pos (by omega)]
      · rw [if_neg h1, if_neg (by omega)]
end

end Go.Proofs.YtcdijeeabgmgmaaGreatDoor

/- The rest of a number, of both sides, for a divisor of at most 12. -/
namespace Go.Proofs.YtcdijeeabgmgmaaGreatDoor
open Go.RowKit

theorem restUp (x : Int) (m : Int) (hm : 0 < m) : (Int.tmod x m + m).tmod m = x % m := by
  have h0 := Int.emod_nonneg x (show m ≠ 0 by omega)
  have h1 := Int.emod_lt_of_pos x hm
  have h2 : Int.tmod x m + m = x % m ∨ Int.tmod x m + m = x % m + m := by
    rw [Int.tmod_eq_emod]
    split
    · right; omega
    · left; omega
  rcases h2 with e | e
  · rw [e, Int.tmod_eq_emod_of_nonneg h0, Int.emod_emod]
  · rw [e, Int.tmod_eq_emod_of_nonneg (by omega), Int.add_emod_right, Int.emod_emod]

theorem restIf (x : Int) (m : Int) (hm : 0 < m) : (Int.tmod x m < 0 ∧ Int.tmod x m + m = x % m) ∨ (¬ Int.tmod x m < 0 ∧ Int.tmod x m = x % m) := by
  have h0 := Int.emod_nonneg x (show m ≠ 0 by omega)
  have h1 := Int.emod_lt_of_pos x hm
  rw [Int.tmod_eq_emod]
  split
  · right; constructor <;> omega
  · left; constructor <;> omega

theorem tmodBound (x : Int) (m : Nat) (hm : 0 < m) (hm' : m ≤ 12) : -13 < Int.tmod x m ∧ Int.tmod x m < 12 := by
  have h0 := Int.emod_nonneg x (show (m : Int) ≠ 0 by omega)
  have h1 := Int.emod_lt_of_pos x (show 0 < (m : Int) by omega)
  rcases restIf x m (by omega) with ⟨h2, h3⟩ | ⟨h2, h3⟩ <;> omega

set_option maxHeartbeats 400000 in
theorem l01Mod_w (x : Int) (m : Nat) (w : World) (hm : 0 < m) (hm' : m ≤ 12) (_ : -1000000 ≤ x) (_ : x ≤ 1000000) :
    Calls Tryz.prog 56 #[.int .i64 x, .int .i64 (m : Int)] w fun e w' => e = .returned (.int .i64 (x % (m : Int))) ∧ w = w' := by
  have hb := tmodBound x m hm hm'
  have hw : wrap64 (Int.tmod x m + m) = Int.tmod x m + m := by unfold wrap64; omega
  go_enter Tryz.func56, Tryz.ntmps56
  go_wp2
  go_ret
  refine ⟨?_, rfl⟩
  simp only [restUp x m (by omega)]
  rfl
theorem l01Mod_ex (x : Int) (m : Nat) (w : World) (hm : 0 < m) (hm' : m ≤ 12) (h0 : -1000000 ≤ x) (h1 : x ≤ 1000000) :
    Calls Tryz.prog 56 #[.int .i64 x, .int .i64 (m : Int)] w fun e w' => e = .returned (.int .i64 (x % (m : Int))) ∧ Ex w w' := (l01Mod_w x m w hm hm' h0 h1).mono fun _ _ ⟨h2, h3⟩ => ⟨h2, Ex.of_eq' h3⟩

set_option maxHeartbeats 400000 in
theorem restOf_w (x : Int) (m : Nat) (w : World) (hm : 0 < m) (hm' : m ≤ 12) (_ : -1000000 ≤ x) (_ : x ≤ 1000000) :
    Calls Tryz.prog 97 #[.int .i64 x, .int .i64 (m : Int)] w fun e w' => e = .returned (.int .i64 (x % (m : Int))) ∧ w = w' := by
  have hb := tmodBound x m hm hm'
  have hw : wrap64 (Int.tmod x m + m) = Int.tmod x m + m := by unfold wrap64; omega
  rcases restIf x m (by omega) with ⟨g1, g2⟩ | ⟨g1, g2⟩
  · have g1' : decide (Int.tmod x m < 0) = true := by simp [g1]
    have G2 := Lib.hid g2
    have HW := Lib.hid hw
    clear g2 hw
    go_enter Tryz.func97, Tryz.ntmps97
    go_wp2
    go_ret
    refine ⟨?_, rfl⟩
    simp only [G2.out]
    rfl
  · have g1' : decide (Int.tmod x m < 0) = false := by simp [g1]
    have G2 := Lib.hid g2
    clear g2 hw
    go_enter Tryz.func97, Tryz.ntmps97
    go_wp2
    go_ret
    refine ⟨?_, rfl⟩
    simp only [G2.out]
    rfl

theorem mulBound {k : Int} {u : Nat} (h0 : -1000 ≤ k) (h1 : k ≤ 1000) (hu : u ≤ 12) : -12000 ≤ k * (u : Int) ∧ k * (u : Int) ≤ 12000 := by
  have : u = 0 ∨ u = 1 ∨ u = 2 ∨ u = 3 ∨ u = 4 ∨ u = 5 ∨ u = 6 ∨ u = 7 ∨ u = 8 ∨ u = 9 ∨ u = 10 ∨ u = 11 ∨ u = 12 := by omega
  rcases this with rfl | rfl | rfl | rfl | rfl | rfl | rfl | rfl | rfl | rfl | rfl | rfl | rfl <;> constructor <;> omega

end Go.Proofs.YtcdijeeabgmgmaaGreatDoor

/- Inverses: both sides' search for them. -/
namespace Go.Proofs.YtcdijeeabgmgmaaGreatDoor
open Go.RowKit

open Classical in
/-- The inverse of an element. -/
noncomputable def iv (t : List (List Int)) (a : Nat) : Nat := if h : ∃ b, b < t.length ∧ mul t a b = 0 then Classical.choose h else 0
section
variable {t : List (List Int)} (h : IsGrp t) {a : Nat} (ha : a < t.length)
include h ha
theorem iv_spec : iv t a < t.length ∧ mul t a (iv t a) = 0 := by
  have hex : ∃ b, b < t.length ∧ mul t a b = 0 := by
    obtain ⟨b, hb, h1, _⟩ := h.inv_ex ha
    exact ⟨b, hb, h1⟩
  unfold iv
  rw [dif_pos hex]
  exact Classical.choose_spec hex
theorem iv_only {b : Nat} (hb : b < t.length) (he : mul t a b = 0) : b = iv t a := h.left_cancel ha hb (iv_spec h ha).1 (he.trans (iv_spec h ha).2.symm)
theorem iv_ent : nth (row t a) (iv t a) = 0 := by
  rw [h.ent ha (iv_spec h ha).1, (iv_spec h ha).2]
  rfl
theorem iv_before {j : Nat} (hj : j < iv t a) : nth (row t a) j ≠ 0 := fun e => by
  have hjl : j < t.length := Nat.lt_trans hj (iv_spec h ha).1
  rw [h.ent ha hjl] at e
  have := iv_only h ha hjl (by omega)
  omega
end

theorem RwsW.sq {w : World} {A : Option Addr} {t : List (List Int)} (h : RwsW w A t) (hg : IsGrp t) : ∃ b o bb oo C, A = some ⟨b, o, none⟩ ∧ SqT w w.heap.size b o bb oo C t := h.rws.sq hg.n1 hg.sq
theorem SqT.ex {w w' : World} {b o : Nat} {bb oo C : Nat → Nat} {t : List (List Int)} (h : SqT w w.heap.size b o bb oo C t) (k : Ex w w') : SqT w' w.heap.size b o bb oo C t := h.below k.below (Nat.le_refl _)
theorem SqT.exB {w w' : World} {B b o : Nat} {bb oo C : Nat → Nat} {t : List (List Int)} (h : SqT w B b o bb oo C t) (k : Ex w w') (hB : B ≤ w.heap.size) : SqT w' B b o bb oo C t := h.below k.below hB

set_option maxHeartbeats 1000000 in
theorem l01Inverse_any (A : Option Addr) (t : List (List Int)) (c a : Nat) (w : World) (hR : RwsW w A t) (hg : IsGrp t) (ha : a < t.length) :
    Calls Tryz.prog 78 #[.agg #[.slice A t.length c], .int .i64 (a : Int)] w fun e w' => e = .returned (.int .i64 (iv t a : Int)) ∧ Ex w w' := by
  obtain ⟨b, o, bb, oo, C, rfl, hQ⟩ := hR.sq hg
  have e0 : Ex w (w.alloc (.cells #[.slice (some ⟨b, o, none⟩) t.length c] 32)) := (Ex.refl w).alloc _
  have b0 : Has (w.alloc (.cells #[.slice (some ⟨b, o, none⟩) t.length c] 32)) (w.heap.size) 32 #[.slice (some ⟨b, o, none⟩) t.length c] := (Has.newAt (w := w) (e := 32) (cs := #[.slice (some ⟨b, o, none⟩) t.length c]) (k := w.heap.size) (by simp))
  have hn8 := hg.n8
  obtain ⟨hil, -⟩ := iv_spec hg ha
  have HV := Lib.hid (iv_ent hg ha)
  have HL := Lib.hid (fun j => iv_before hg ha (j := j))
  have HQ := Lib.hid (hQ.ex e0)
  have HE0 := Lib.hid e0
  have hbw := hQ.1
  have hrw := (hQ.2 a ha).2.1
  clear hQ hg hR
  generalize hi : iv t a = i at *
  clear hi
  go_enter Tryz.func78, Tryz.ntmps78
  go_wp2_with fail
  generalize (w.alloc (.cells #[.slice (some ⟨b, o, none⟩) t.length c] 32)) = W0 at *
  have HB0 := Lib.hid b0
  clear b0 e0
  go_loopw [5] (fun x wr => ∃ k : Nat, k ≤ i ∧ x = .int .i64 (k : Int) ∧ Hid (Ex W0 wr)) (fun x _ => i - (intOf x).toNat)
  case atStart => exact ⟨0, Nat.zero_le _, rfl, Lib.hid (Ex.refl _)⟩
  case round =>
    obtain ⟨k, hk, rfl, HE⟩ := hrel
    have c0 := (HB0.out.ex HE.out).cell 0
    have hz := HE.out.size
    have hz0 := HE0.out.size
    go_wp2_with fail
    refine (l01N_ex _ _ _ _ (by omega)).mono ?_
    rintro e W1 ⟨rfl, he1⟩
    have hq := HQ.out.exB (HE.out.trans he1) hz0
    have c1 := (HB0.out.ex (HE.out.trans he1)).cell 0
    have hr := hq.row_ ha
    have hkl : k < t.length := by omega
    have hen := hq.ent_ ha hkl
    have HE1 := Lib.hid (HE.out.trans he1)
    clear hq c0
    by_cases hki : k = i
    · subst hki
      rw [HV.out] at hen
      go_wp2_with fail
      go_ret
      exact ⟨rfl, HE0.out.trans HE1.out⟩
    · have hne := HL.out k (by omega)
      have hq : (nth (row t a) k == 0) = false := by simpa using hne
      clear hne
      generalize nth (row t a) k = x at *
      go_wp2_with fail
      go_roundw
      case rel => exact ⟨k + 1, by omega, by go_num, HE1⟩
      case measure => simp [intOf]; omega

set_option maxHeartbeats 1000000 in
theorem inverseOf_any (A : Option Addr) (t : List (List Int)) (c a : Nat) (w : World) (hR : RwsW w A t) (hg : IsGrp t) (ha : a < t.length) :
    Calls Tryz.prog 94 #[.agg #[.slice A t.length c], .int .i64 (a : Int)] w fun e w' => e = .returned (.int .i64 (iv t a : Int)) ∧ Ex w w' := by
  obtain ⟨b, o, bb, oo, C, rfl, hQ⟩ := hR.sq hg
  have e0 : Ex w (w.alloc (.cells #[.slice (some ⟨b, o, none⟩) t.length c] 32)) := (Ex.refl w).alloc _
  have b0 : Has (w.alloc (.cells #[.slice (some ⟨b, o, none⟩) t.length c] 32)) (w.heap.size) 32 #[.slice (some ⟨b, o, none⟩) t.length c] := (Has.newAt (w := w) (e := 32) (cs := #[.slice (some ⟨b, o, none⟩) t.length c]) (k := w.heap.size) (by simp))
  have hn8 := hg.n8
  have hq := hQ.ex e0
  have c0 := b0.cell 0
  have hr := hq.row_ ha
  have hlen := hg.sq a ha
  have hI : Ints (w.alloc (.cells #[.slice (some ⟨b, o, none⟩) t.length c] 32)) w.heap.size (some ⟨bb a, oo a, none⟩) (row t a) := .inr ⟨bb a, oo a, rfl, (hq.2 a ha).2.1, fun j hj => hq.ent_ ha (by rw [hlen] at hj; exact hj)⟩
  have hcon := index_found (some ⟨bb a, oo a, none⟩) (row t a) 0 (iv t a) (C a) w.heap.size _ hI (by rw [hlen]; omega) (by rw [hlen]; exact (iv_spec hg ha).1) (iv_ent hg ha) (fun j hj => iv_before hg ha hj)
  rw [hlen] at hcon
  have HC := Lib.hid hcon
  have hil := (iv_spec hg ha).1
  clear hcon hI hlen hq hQ hg hR
  generalize iv t a = i at *
  go_enter Tryz.func94, Tryz.ntmps94
  go_wp2_with fail
  generalize (w.alloc (.cells #[.slice (some ⟨b, o, none⟩) t.length c] 32)) = W0 at *
  refine HC.out.mono ?_
  rintro e w' ⟨rfl, rfl⟩
  go_wp2_with fail
  go_ret
  exact ⟨rfl, e0⟩

end Go.Proofs.YtcdijeeabgmgmaaGreatDoor

/- Conjugates: both sides. -/
namespace Go.Proofs.YtcdijeeabgmgmaaGreatDoor
open Go.RowKit

/-- c a c' -/
noncomputable def con (t : List (List Int)) (a c : Nat) : Nat := mul t (mul t c a) (iv t c)
theorem con_lt {t : List (List Int)} (h : IsGrp t) {a c : Nat} (ha : a < t.length) (hc : c < t.length) : con t a c < t.length := h.mul_lt (h.mul_lt hc ha) (iv_spec h hc).1

set_option maxRecDepth 100000 in
set_option maxHeartbeats 1000000 in
theorem l01Conjugate_any (A : Option Addr) (t : List (List Int)) (d a c : Nat) (w : World) (hR : RwsW w A t) (hg : IsGrp t) (ha : a < t.length) (hc : c < t.length) :
    Calls Tryz.prog 41 #[.agg #[.slice A t.length d], .int .i64 (a : Int), .int .i64 (c : Int)] w fun e w' => e = .returned (.int .i64 (con t a c : Int)) ∧ Ex w w' := by
  obtain ⟨b, o, bb, oo, C, rfl, hQ⟩ := hR.sq hg
  have e0 : Ex w (w.alloc (.cells #[.slice (some ⟨b, o, none⟩) t.length d] 32)) := (Ex.refl w).alloc _
  have b0 : Has (w.alloc (.cells #[.slice (some ⟨b, o, none⟩) t.length d] 32)) (w.heap.size) 32 #[.slice (some ⟨b, o, none⟩) t.length d] := (Has.newAt (w := w) (e := 32) (cs := #[.slice (some ⟨b, o, none⟩) t.length d]) (k := w.heap.size) (by simp))
  have hn8 := hg.n8
  have hml := hg.mul_lt hc ha
  have hil := (iv_spec hg hc).1
  have HIV := Lib.hid (fun W (he : Ex w W) => l01Inverse_any (some ⟨b, o, none⟩) t d c W (hR.ex he) hg hc)
  have HF := Lib.hid (fun W' (he : Ex w W') => (by
    have hq := hQ.ex he
    exact ⟨hq.row_ hc, by rw [hq.ent_ hc ha, hg.ent hc ha], hq.row_ hml, by rw [hq.ent_ hml hil, hg.ent hml hil]; rfl⟩ :
      W'.cell? ⟨b, o + c, none⟩ = some (.slice (some ⟨bb c, oo c, none⟩) t.length (C c)) ∧ W'.cell? ⟨bb c, oo c + a, none⟩ = some (.int .i64 (mul t c a : Int)) ∧
      W'.cell? ⟨b, o + mul t c a, none⟩ = some (.slice (some ⟨bb (mul t c a), oo (mul t c a), none⟩) t.length (C (mul t c a))) ∧ W'.cell? ⟨bb (mul t c a), oo (mul t c a) + iv t c, none⟩ = some (.int .i64 (con t a c : Int))))
  obtain ⟨z, hz⟩ : ∃ z, con t a c = z := ⟨_, rfl⟩
  obtain ⟨m, hm⟩ : ∃ m, mul t c a = m := ⟨_, rfl⟩
  obtain ⟨i, hi⟩ : ∃ i, iv t c = i := ⟨_, rfl⟩
  rw [hz, hm, hi] at HF
  rw [hm] at hml
  rw [hi] at hil HIV
  rw [hz]
  clear hz hm hi hQ hR hg
  go_enter Tryz.func41, Tryz.ntmps41
  go_wp2_with fail
  generalize (w.alloc (.cells #[.slice (some ⟨b, o, none⟩) t.length d] 32)) = W0 at *
  have HE0 := Lib.hid e0
  have HSK := Lib.hid (fun (W' : World) (hb : Ex W0.drew W') => And.intro ((Has.ex (w := W0.drew) b0 hb).cell 0) (HF.out W' (HE0.out.drew.trans hb)))
  clear b0 e0
  refine wp_region_quiet (C := fun w' => Ex W0.drew w') (by kernel_rfl) (by kernel_rfl) (Ex.refl _) ?_
  refine BigFrame.wpQuiet_want (by rfl) fun K hK => ⟨?_, fun w' hC => ?_, hK _ ?_⟩
  rotate_left
  · (obtain ⟨q0, q1, q2, q3, q4⟩ := HSK.out _ hC; go_simp; first | done | with_reducible rfl | exact ⟨rfl, hC⟩)
  clear hK K
  simp only [Act.put, List.setIfInBounds_toArray, List.set_cons_zero, List.set_cons_succ]
  refine BigFrame.wpQuiet_want (by rfl) fun K hK => ⟨?_, fun w' hC => ?_, hK _ ?_⟩
  rotate_left
  · (obtain ⟨q0, q1, q2, q3, q4⟩ := HSK.out _ hC; go_simp; first | done | with_reducible rfl | exact ⟨rfl, hC⟩)
  clear hK K
  simp only [Act.put, List.setIfInBounds_toArray, List.set_cons_zero, List.set_cons_succ]
  refine BigFrame.wpQuiet_want (by rfl) fun K hK => ⟨?_, fun w' hC => ?_, hK _ ?_⟩
  rotate_left
  · (obtain ⟨q0, q1, q2, q3, q4⟩ := HSK.out _ hC; go_simp; first | done | with_reducible rfl | exact ⟨rfl, hC⟩)
  clear hK K
  simp only [Act.put, List.setIfInBounds_toArray, List.set_cons_zero, List.set_cons_succ]
  refine BigFrame.wpQuiet_want (by rfl) fun K hK => ⟨?_, fun w' hC => ?_, hK _ ?_⟩
  rotate_left
  · (obtain ⟨q0, q1, q2, q3, q4⟩ := HSK.out _ hC; go_simp; first | done | with_reducible rfl | exact ⟨rfl, hC⟩)
  clear hK K
  simp only [Act.put, List.setIfInBounds_toArray, List.set_cons_zero, List.set_cons_succ]
  refine BigFrame.wpQuiet_want (by rfl) fun K hK => ⟨?_, fun w' hC => ?_, hK _ ?_⟩
  rotate_left
  · (obtain ⟨q0, q1, q2, q3, q4⟩ := HSK.out _ hC; go_simp; first | done | with_reducible rfl | exact ⟨rfl, hC⟩)
  clear hK K
  simp only [Act.put, List.setIfInBounds_toArray, List.set_cons_zero, List.set_cons_succ]
  refine BigFrame.wpQuiet_want (by rfl) fun K hK => ⟨?_, fun w' hC => ?_, hK _ ?_⟩
  rotate_left
  · (obtain ⟨q0, q1, q2, q3, q4⟩ := HSK.out _ hC; go_simp; first | done | with_reducible rfl | exact ⟨rfl, hC⟩)
  clear hK K
  simp only [Act.put, List.setIfInBounds_toArray, List.set_cons_zero, List.set_cons_succ]
  refine BigFrame.wpQuiet_want (by rfl) fun K hK => ⟨?_, fun w' hC => ?_, hK _ ?_⟩
  rotate_left
  · (obtain ⟨q0, q1, q2, q3, q4⟩ := HSK.out _ hC; go_simp; first | done | with_reducible rfl | exact ⟨rfl, hC⟩)
  clear hK K
  simp only [Act.put, List.setIfInBounds_toArray, List.set_cons_zero, List.set_cons_succ]
  refine BigFrame.wpQuiet_want (by rfl) fun K hK => ⟨?_, fun w' hC => ?_, hK _ ?_⟩
  rotate_left
  · (obtain ⟨q0, q1, q2, q3, q4⟩ := HSK.out _ hC; go_simp; first | done | with_reducible rfl | exact ⟨rfl, hC⟩)
  clear hK K
  simp only [Act.put, List.setIfInBounds_toArray, List.set_cons_zero, List.set_cons_succ]
  refine BigFrame.wpQuiet_want (by rfl) fun K hK => ⟨?_, fun w' hC => ?_, hK _ ?_⟩
  rotate_left
  · (obtain ⟨q0, q1, q2, q3, q4⟩ := HSK.out _ hC; go_simp; first | done | with_reducible rfl | exact ⟨rfl, hC⟩)
  clear hK K
  simp only [Act.put, List.setIfInBounds_toArray, List.set_cons_zero, List.set_cons_succ]
  refine BigFrame.wpQuiet_want (by rfl) fun K hK => ⟨?_, fun w' hC => ?_, hK _ ?_⟩
  rotate_left
  · (obtain ⟨q0, q1, q2, q3, q4⟩ := HSK.out _ hC; go_simp; first | done | with_reducible rfl | exact ⟨rfl, hC⟩)
  clear hK K
  simp only [Act.put, List.setIfInBounds_toArray, List.set_cons_zero, List.set_cons_succ]
  refine BigFrame.wpQuiet_want (by rfl) fun K hK => ⟨?_, fun w' hC => ?_, hK _ ?_⟩
  rotate_left
  · (obtain ⟨q0, q1, q2, q3, q4⟩ := HSK.out _ hC; go_simp; first | done | with_reducible rfl | exact ⟨rfl, hC⟩)
  clear hK K
  simp only [Act.put, List.setIfInBounds_toArray, List.set_cons_zero, List.set_cons_succ]
  refine BigFrame.wpQuiet_want (by rfl) fun K hK => ⟨?_, fun w' hC => ?_, hK _ ?_⟩
  rotate_left
  · (obtain ⟨q0, q1, q2, q3, q4⟩ := HSK.out _ hC; go_simp; first | done | with_reducible rfl | exact ⟨rfl, hC⟩)
  clear hK K
  simp only [Act.put, List.setIfInBounds_toArray, List.set_cons_zero, List.set_cons_succ]
  refine BigFrame.wpQuiet_want (by rfl) fun K hK => ⟨?_, fun w' hC => ?_, hK _ ?_⟩
  rotate_left
  · (obtain ⟨q0, q1, q2, q3, q4⟩ := HSK.out _ hC; go_simp; first | done | with_reducible rfl | exact ⟨rfl, hC⟩)
  clear hK K
  simp only [Act.put, List.setIfInBounds_toArray, List.set_cons_zero, List.set_cons_succ]
  refine BigFrame.wpQuiet_want (by rfl) fun K hK => ⟨?_, fun w' hC => ?_, hK _ ?_⟩
  rotate_left
  · (obtain ⟨q0, q1, q2, q3, q4⟩ := HSK.out _ hC; go_simp; first | done | with_reducible rfl | exact ⟨rfl, hC⟩)
  clear hK K
  simp only [Act.put, List.setIfInBounds_toArray, List.set_cons_zero, List.set_cons_succ]
  refine BigFrame.wpQuiet_want (by rfl) fun K hK => ⟨.int .i64 (i : Int), fun w' hC => (by go_simp; refine ((HIV.out w' (HE0.out.drew.trans hC))).mono ?_; rintro e w2 ⟨rfl, hb⟩; exact ⟨rfl, hC.trans hb⟩), hK _ ?_⟩
  clear hK K
  simp only [Act.put, List.setIfInBounds_toArray, List.set_cons_zero, List.set_cons_succ]
  refine BigFrame.wpQuiet_want (by rfl) fun K hK => ⟨?_, fun w' hC => ?_, hK _ ?_⟩
  rotate_left
  · (obtain ⟨q0, q1, q2, q3, q4⟩ := HSK.out _ hC; go_simp; first | done | with_reducible rfl | exact ⟨rfl, hC⟩)
  clear hK K
  simp only [Act.put, List.setIfInBounds_toArray, List.set_cons_zero, List.set_cons_succ]
  refine BigFrame.wpQuiet_want (by rfl) fun K hK => ⟨?_, fun w' hC => ?_, hK _ ?_⟩
  rotate_left
  · (obtain ⟨q0, q1, q2, q3, q4⟩ := HSK.out _ hC; go_simp; first | done | with_reducible rfl | exact ⟨rfl, hC⟩)
  clear hK K
  simp only [Act.put, List.setIfInBounds_toArray, List.set_cons_zero, List.set_cons_succ]
  refine BigFrame.wpQuiet_want (by rfl) fun K hK => ⟨?_, fun w' hC => ?_, hK _ ?_⟩
  rotate_left
  · (obtain ⟨q0, q1, q2, q3, q4⟩ := HSK.out _ hC; go_simp; first | done | with_reducible rfl | exact ⟨rfl, hC⟩)
  clear hK K
  simp only [Act.put, List.setIfInBounds_toArray, List.set_cons_zero, List.set_cons_succ]
  refine wpQuiet_nil ?_
  intro w2 hC2
  have HC2 := Lib.hid hC2
  clear hC2
  go_wp2_with fail
  go_ret
  exact ⟨rfl, HE0.out.drew.trans HC2.out⟩

set_option maxRecDepth 100000 in
set_option maxHeartbeats 1000000 in
theorem conjugateOf_any (A : Option Addr) (t : List (List Int)) (d a c : Nat) (w : World) (hR : RwsW w A t) (hg : IsGrp t) (ha : a < t.length) (hc : c < t.length) :
    Calls Tryz.prog 118 #[.agg #[.slice A t.length d], .int .i64 (a : Int), .int .i64 (c : Int)] w fun e w' => e = .returned (.int .i64 (con t a c : Int)) ∧ Ex w w' := by
  obtain ⟨b, o, bb, oo, C, rfl, hQ⟩ := hR.sq hg
  have e0 : Ex w (w.alloc (.cells #[.slice (some ⟨b, o, none⟩) t.length d] 32)) := (Ex.refl w).alloc _
  have b0 : Has (w.alloc (.cells #[.slice (some ⟨b, o, none⟩) t.length d] 32)) (w.heap.size) 32 #[.slice (some ⟨b, o, none⟩) t.length d] := (Has.newAt (w := w) (e := 32) (cs := #[.slice (some ⟨b, o, none⟩) t.length d]) (k := w.heap.size) (by simp))
  have hn8 := hg.n8
  have hml := hg.mul_lt hc ha
  have hil := (iv_spec hg hc).1
  have HIV := Lib.hid (fun W (he : Ex w W) => inverseOf_any (some ⟨b, o, none⟩) t d c W (hR.ex he) hg hc)
  have HF := Lib.hid (fun W' (he : Ex w W') => (by
    have hq := hQ.ex he
    exact ⟨hq.row_ hc, by rw [hq.ent_ hc ha, hg.ent hc ha], hq.row_ hml, by rw [hq.ent_ hml hil, hg.ent hml hil]; rfl⟩ :
      W'.cell? ⟨b, o + c, none⟩ = some (.slice (some ⟨bb c, oo c, none⟩) t.length (C c)) ∧ W'.cell? ⟨bb c, oo c + a, none⟩ = some (.int .i64 (mul t c a : Int)) ∧
      W'.cell? ⟨b, o + mul t c a, none⟩ = some (.slice (some ⟨bb (mul t c a), oo (mul t c a), none⟩) t.length (C (mul t c a))) ∧ W'.cell? ⟨bb (mul t c a), oo (mul t c a) + iv t c, none⟩ = some (.int .i64 (con t a c : Int))))
  obtain ⟨z, hz⟩ : ∃ z, con t a c = z := ⟨_, rfl⟩
  obtain ⟨m, hm⟩ : ∃ m, mul t c a = m := ⟨_, rfl⟩
  obtain ⟨i, hi⟩ : ∃ i, iv t c = i := ⟨_, rfl⟩
  rw [hz, hm, hi] at HF
  rw [hm] at hml
  rw [hi] at hil HIV
  rw [hz]
  clear hz hm hi hQ hR hg
  go_enter Tryz.func118, Tryz.ntmps118
  go_wp2_with fail
  generalize (w.alloc (.cells #[.slice (some ⟨b, o, none⟩) t.length d] 32)) = W0 at *
  have HE0 := Lib.hid e0
  have HSK := Lib.hid (fun (W' : World) (hb : Ex W0.drew W') => And.intro ((Has.ex (w := W0.drew) b0 hb).cell 0) (HF.out W' (HE0.out.drew.trans hb)))
  clear b0 e0
  refine wp_region_quiet (C := fun w' => Ex W0.drew w') (by kernel_rfl) (by kernel_rfl) (Ex.refl _) ?_
  refine BigFrame.wpQuiet_want (by rfl) fun K hK => ⟨?_, fun w' hC => ?_, hK _ ?_⟩
  rotate_left
  · (obtain ⟨q0, q1, q2, q3, q4⟩ := HSK.out _ hC; go_simp; first | done | with_reducible rfl | exact ⟨rfl, hC⟩)
  clear hK K
  simp only [Act.put, List.setIfInBounds_toArray, List.set_cons_zero, List.set_cons_succ]
  refine BigFrame.wpQuiet_want (by rfl) fun K hK => ⟨?_, fun w' hC => ?_, hK _ ?_⟩
  rotate_left
  · (obtain ⟨q0, q1, q2, q3, q4⟩ := HSK.out _ hC; go_simp; first | done | with_reducible rfl | exact ⟨rfl, hC⟩)
  clear hK K
  simp only [Act.put, List.setIfInBounds_toArray, List.set_cons_zero, List.set_cons_succ]
  refine BigFrame.wpQuiet_want (by rfl) fun K hK => ⟨?_, fun w' hC => ?_, hK _ ?_⟩
  rotate_left
  · (obtain ⟨q0, q1, q2, q3, q4⟩ := HSK.out _ hC; go_simp; first | done | with_reducible rfl | exact ⟨rfl, hC⟩)
  clear hK K
  simp only [Act.put, List.setIfInBounds_toArray, List.set_cons_zero, List.set_cons_succ]
  refine BigFrame.wpQuiet_want (by rfl) fun K hK => ⟨?_, fun w' hC => ?_, hK _ ?_⟩
  rotate_left
  · (obtain ⟨q0, q1, q2, q3, q4⟩ := HSK.out _ hC; go_simp; first | done | with_reducible rfl | exact ⟨rfl, hC⟩)
  clear hK K
  simp only [Act.put, List.setIfInBounds_toArray, List.set_cons_zero, List.set_cons_succ]
  refine BigFrame.wpQuiet_want (by rfl) fun K hK => ⟨?_, fun w' hC => ?_, hK _ ?_⟩
  rotate_left
  · (obtain ⟨q0, q1, q2, q3, q4⟩ := HSK.out _ hC; go_simp; first | done | with_reducible rfl | exact ⟨rfl, hC⟩)
  clear hK K
  simp only [Act.put, List.setIfInBounds_toArray, List.set_cons_zero, List.set_cons_succ]
  refine BigFrame.wpQuiet_want (by rfl) fun K hK => ⟨?_, fun w' hC => ?_, hK _ ?_⟩
  rotate_left
  · (obtain ⟨q0, q1, q2, q3, q4⟩ := HSK.out _ hC; go_simp; first | done | with_reducible rfl | exact ⟨rfl, hC⟩)
  clear hK K
  simp only [Act.put, List.setIfInBounds_toArray, List.set_cons_zero, List.set_cons_succ]
  refine BigFrame.wpQuiet_want (by rfl) fun K hK => ⟨?_, fun w' hC => ?_, hK _ ?_⟩
  rotate_left
  · (obtain ⟨q0, q1, q2, q3, q4⟩ := HSK.out _ hC; go_simp; first | done | with_reducible rfl | exact ⟨rfl, hC⟩)
  clear hK K
  simp only [Act.put, List.setIfInBounds_toArray, List.set_cons_zero, List.set_cons_succ]
  refine BigFrame.wpQuiet_want (by rfl) fun K hK => ⟨?_, fun w' hC => ?_, hK _ ?_⟩
  rotate_left
  · (obtain ⟨q0, q1, q2, q3, q4⟩ := HSK.out _ hC; go_simp; first | done | with_reducible rfl | exact ⟨rfl, hC⟩)
  clear hK K
  simp only [Act.put, List.setIfInBounds_toArray, List.set_cons_zero, List.set_cons_succ]
  refine BigFrame.wpQuiet_want (by rfl) fun K hK => ⟨?_, fun w' hC => ?_, hK _ ?_⟩
  rotate_left
  · (obtain ⟨q0, q1, q2, q3, q4⟩ := HSK.out _ hC; go_simp; first | done | with_reducible rfl | exact ⟨rfl, hC⟩)
  clear hK K
  simp only [Act.put, List.setIfInBounds_toArray, List.set_cons_zero, List.set_cons_succ]
  refine BigFrame.wpQuiet_want (by rfl) fun K hK => ⟨?_, fun w' hC => ?_, hK _ ?_⟩
  rotate_left
  · (obtain ⟨q0, q1, q2, q3, q4⟩ := HSK.out _ hC; go_simp; first | done | with_reducible rfl | exact ⟨rfl, hC⟩)
  clear hK K
  simp only [Act.put, List.setIfInBounds_toArray, List.set_cons_zero, List.set_cons_succ]
  refine BigFrame.wpQuiet_want (by rfl) fun K hK => ⟨?_, fun w' hC => ?_, hK _ ?_⟩
  rotate_left
  · (obtain ⟨q0, q1, q2, q3, q4⟩ := HSK.out _ hC; go_simp; first | done | with_reducible rfl | exact ⟨rfl, hC⟩)
  clear hK K
  simp only [Act.put, List.setIfInBounds_toArray, List.set_cons_zero, List.set_cons_succ]
  refine BigFrame.wpQuiet_want (by rfl) fun K hK => ⟨?_, fun w' hC => ?_, hK _ ?_⟩
  rotate_left
  · (obtain ⟨q0, q1, q2, q3, q4⟩ := HSK.out _ hC; go_simp; first | done | with_reducible rfl | exact ⟨rfl, hC⟩)
  clear hK K
  simp only [Act.put, List.setIfInBounds_toArray, List.set_cons_zero, List.set_cons_succ]
  refine BigFrame.wpQuiet_want (by rfl) fun K hK => ⟨?_, fun w' hC => ?_, hK _ ?_⟩
  rotate_left
  · (obtain ⟨q0, q1, q2, q3, q4⟩ := HSK.out _ hC; go_simp; first | done | with_reducible rfl | exact ⟨rfl, hC⟩)
  clear hK K
  simp only [Act.put, List.setIfInBounds_toArray, List.set_cons_zero, List.set_cons_succ]
  refine BigFrame.wpQuiet_want (by rfl) fun K hK => ⟨?_, fun w' hC => ?_, hK _ ?_⟩
  rotate_left
  · (obtain ⟨q0, q1, q2, q3, q4⟩ := HSK.out _ hC; go_simp; first | done | with_reducible rfl | exact ⟨rfl, hC⟩)
  clear hK K
  simp only [Act.put, List.setIfInBounds_toArray, List.set_cons_zero, List.set_cons_succ]
  refine BigFrame.wpQuiet_want (by rfl) fun K hK => ⟨.int .i64 (i : Int), fun w' hC => (by go_simp; refine ((HIV.out w' (HE0.out.drew.trans hC))).mono ?_; rintro e w2 ⟨rfl, hb⟩; exact ⟨rfl, hC.trans hb⟩), hK _ ?_⟩
  clear hK K
  simp only [Act.put, List.setIfInBounds_toArray, List.set_cons_zero, List.set_cons_succ]
  refine BigFrame.wpQuiet_want (by rfl) fun K hK => ⟨?_, fun w' hC => ?_, hK _ ?_⟩
  rotate_left
  · (obtain ⟨q0, q1, q2, q3, q4⟩ := HSK.out _ hC; go_simp; first | done | with_reducible rfl | exact ⟨rfl, hC⟩)
  clear hK K
  simp only [Act.put, List.setIfInBounds_toArray, List.set_cons_zero, List.set_cons_succ]
  refine BigFrame.wpQuiet_want (by rfl) fun K hK => ⟨?_, fun w' hC => ?_, hK _ ?_⟩
  rotate_left
  · (obtain ⟨q0, q1, q2, q3, q4⟩ := HSK.out _ hC; go_simp; first | done | with_reducible rfl | exact ⟨rfl, hC⟩)
  clear hK K
  simp only [Act.put, List.setIfInBounds_toArray, List.set_cons_zero, List.set_cons_succ]
  refine BigFrame.wpQuiet_want (by rfl) fun K hK => ⟨?_, fun w' hC => ?_, hK _ ?_⟩
  rotate_left
  · (obtain ⟨q0, q1, q2, q3, q4⟩ := HSK.out _ hC; go_simp; first | done | with_reducible rfl | exact ⟨rfl, hC⟩)
  clear hK K
  simp only [Act.put, List.setIfInBounds_toArray, List.set_cons_zero, List.set_cons_succ]
  refine wpQuiet_nil ?_
  intro w2 hC2
  have HC2 := Lib.hid hC2
  clear hC2
  go_wp2_with fail
  go_ret
  exact ⟨rfl, HE0.out.drew.trans HC2.out⟩

end Go.Proofs.YtcdijeeabgmgmaaGreatDoor
