/- Lists of rows of any length that grow; lists of sets with their blocks; classes. -/
import Derived.Test.YtcdijeeabgmgmaaGreatDoorQot
import Derived.Test.YtcdijeeabgmgmaaGreatDoorNrm
namespace Go.Proofs.YtcdijeeabgmgmaaGreatDoor
open Go.RowKit Go.Shelf

attribute [local go_sem] Oper.semAt_some

/-- The values of a list of rows. -/
def rowVM (Rs : List (List Int)) (G C : Nat → Nat) : List Value := (List.range Rs.length).map fun i => .slice (some ⟨G i, 0, none⟩) (row Rs i).length (C i)
theorem rowVM_get {Rs : List (List Int)} {G C : Nat → Nat} {i : Nat} (h : i < Rs.length) : (rowVM Rs G C)[i]? = some (.slice (some ⟨G i, 0, none⟩) (row Rs i).length (C i)) := by simp [rowVM, h]
theorem row_old {Rs : List (List Int)} {r : List Int} {i : Nat} (h : i < Rs.length) : row (Rs ++ [r]) i = row Rs i := by simp [row, List.getElem?_append_left h]
theorem row_new (Rs : List (List Int)) (r : List Int) : row (Rs ++ [r]) Rs.length = r := by simp [row]
theorem rowVM_snoc (Rs : List (List Int)) (r : List Int) (G C : Nat → Nat) (g c : Nat) : rowVM (Rs ++ [r]) (fun i => if i = Rs.length then g else G i) (fun i => if i = Rs.length then c else C i) = rowVM Rs G C ++ [.slice (some ⟨g, 0, none⟩) r.length c] := by
  unfold rowVM
  rw [List.length_append, List.length_singleton, List.range_succ, List.map_append]
  congr 1
  · refine List.map_congr_left fun i hi => ?_
    have h := List.mem_range.1 hi
    have : i ≠ Rs.length := by omega
    simp only [this, if_false, row_old h]
  · simp [row_new]

/-- Rows in blocks of their own. -/
structure RowsM (w : World) (lo : Nat) (Rs : List (List Int)) (G : Nat → Nat) : Prop where
  lo_le : ∀ i, i < Rs.length → lo ≤ G i
  has : ∀ i, i < Rs.length → ∃ cs, Has w (G i) 2 cs ∧ ∀ j, j < (row Rs i).length → cs[j]? = some (.int .i64 (nth (row Rs i) j))
  apart : ∀ i j, i < Rs.length → j < Rs.length → i ≠ j → G i ≠ G j
section
variable {w w' X Y : World} {lo g b k : Nat} {Rs : List (List Int)} {r : List Int} {G : Nat → Nat} {cs : Array Value} {v v' : Value} {T : TypeId}
theorem RowsM.ex (h : RowsM w lo Rs G) (he : Ex w w') : RowsM w' lo Rs G :=
  ⟨h.lo_le, fun i hi => let ⟨cs, h1, h2⟩ := h.has i hi; ⟨cs, h1.ex he, h2⟩, h.apart⟩
theorem RowsM.lt (h : RowsM w lo Rs G) {i : Nat} (hi : i < Rs.length) : G i < w.heap.size := let ⟨_, h1, _⟩ := h.has i hi; h1.lt
theorem RowsM.snoc (h : RowsM w lo Rs G) (hg : lo ≤ g) (hh : Has w g 2 cs) (hc : ∀ j, j < r.length → cs[j]? = some (.int .i64 (nth r j))) (ha : ∀ i, i < Rs.length → G i ≠ g) :
    RowsM w lo (Rs ++ [r]) (fun i => if i = Rs.length then g else G i) where
  lo_le i hi := by
    rw [List.length_append, List.length_singleton] at hi
    show lo ≤ if i = Rs.length then g else G i
    split
    · exact hg
    · exact h.lo_le i (by omega)
  has i hi := by
    rw [List.length_append, List.length_singleton] at hi
    show ∃ cs, Has w (if i = Rs.length then g else G i) _ cs ∧ _
    by_cases hik : i = Rs.length
    · subst hik
      rw [if_pos rfl, row_new]
      exact ⟨cs, hh, hc⟩
    · rw [if_neg hik, row_old (by omega)]
      exact h.has i (by omega)
  apart i j hi hj hij := by
    rw [List.length_append, List.length_singleton] at hi hj
    show (if i = Rs.length then g else G i) ≠ if j = Rs.length then g else G j
    by_cases hik : i = Rs.length
    · rw [if_pos hik, if_neg (by omega)]
      exact fun e => ha j (by omega) e.symm
    · rw [if_neg hik]
      by_cases hjk : j = Rs.length
      · rw [if_pos hjk]
        exact ha i (by omega)
      · rw [if_neg hjk]
        exact h.apart i j (by omega) (by omega) hij

/-- A list of rows of any length that grows. -/
def GrowM (w : World) (lo : Nat) (v : Value) (Rs : List (List Int)) : Prop := ∃ G C, w.ownsRow lo 25 1 v Rs.length (rowVM Rs G C) ∧ RowsM w lo Rs G
theorem GrowM.ex (h : GrowM w lo v Rs) (he : Ex w w') : GrowM w' lo v Rs := let ⟨G, C, h1, h2⟩ := h; ⟨G, C, own_below h1 he, h2.ex he⟩
theorem GrowM.nil (w : World) (lo : Nat) : GrowM w lo (.slice none 0 0) [] := ⟨id, id, World.ownsRow_nil _ _ _ _, ⟨fun i hi => by simp at hi, fun i hi => by simp at hi, fun i j hi => by simp at hi⟩⟩
theorem GrowM.empty (w : World) (h : lo ≤ w.heap.size) : GrowM (w.alloc (.cells #[] 25)) lo (.slice (some ⟨w.heap.size, 0, none⟩) 0 0) [] :=
  ⟨id, id, own_empty w lo _ h, ⟨fun i hi => by simp at hi, fun i hi => by simp at hi, fun i j hi => by simp at hi⟩⟩
theorem GrowM.push {C : Nat → Nat} {c : Nat} (h1 : w.ownsRow lo 25 1 v Rs.length (rowVM Rs G C)) (h2 : RowsM w lo Rs G) (hg : lo ≤ g) (hh : Has w g 2 cs) (hc : ∀ j, j < r.length → cs[j]? = some (.int .i64 (nth r j))) (ha : ∀ i, i < Rs.length → G i ≠ g)
    (hgr : w.grownBy w' v.ownBlock) (ho : w'.ownsRow lo 25 1 v' (Rs.length + 1) (rowVM Rs G C ++ [.slice (some ⟨g, 0, none⟩) r.length c])) : GrowM w' lo v' (Rs ++ [r]) := by
  have hs := h2.snoc hg hh hc ha
  refine ⟨_, fun i => if i = Rs.length then c else C i, by rw [rowVM_snoc, List.length_append, List.length_singleton]; exact ho, hs.lo_le, fun i hi => ?_, hs.apart⟩
  obtain ⟨cs', h3, h4⟩ := hs.has i hi
  exact ⟨cs', h3.grewR (by decide) h1 hgr, h4⟩
theorem GrowM.set (h : GrowM w lo v Rs) (hb : Has w b T cs) (hT : T ≠ 25) (hT2 : T ≠ 2) (o : Nat) (u : Value) : GrowM (w.setCell ⟨b, o, none⟩ u) lo v Rs := by
  obtain ⟨G, C, h1, h2⟩ := h
  refine ⟨G, C, h1.kept (grownBy_set w b o u) (.inr fun e => hb.off_row hT h1 e.symm), h2.lo_le, fun i hi => ?_, h2.apart⟩
  obtain ⟨cs', h3, h4⟩ := h2.has i hi
  refine ⟨cs', h3.far (p := ⟨b, o, none⟩) (fun e => ?_) u, h4⟩
  have e' : G i = b := e
  rw [e'] at h3
  have h5 := (show w.heap[b]? = _ from hb).symm.trans (show w.heap[b]? = _ from h3)
  simp at h5
  exact hT2 h5.2
/-- It lasts where the block that changes is none of cells. -/
theorem GrowM.away {q : Option Nat} (h : GrowM X lo v Rs) (hg : X.grownBy Y q) (hq : ∀ j T cs, Has X j T cs → some j ≠ q) : GrowM Y lo v Rs := by
  obtain ⟨G, C, h1, h2⟩ := h
  refine ⟨G, C, h1.kept hg ?_, h2.lo_le, fun i hi => ?_, h2.apart⟩
  · rcases h1.2 with ⟨rfl, _⟩ | ⟨g, cap, cur, rfl, _, hgb, _⟩
    · exact .inl rfl
    · exact .inr fun e => hq g _ _ hgb (by simpa [Value.ownBlock] using e)
  · obtain ⟨cs', h3, h4⟩ := h2.has i hi
    exact ⟨cs', (hg.block _ h3.lt (hq _ _ _ h3)).trans h3, h4⟩
theorem GrowM.grown {q : Option Nat} (h : GrowM X lo v Rs) (hg : X.grownBy Y q) (hr : ∀ r, q = some r → ∃ o : Obj, X.heap[r]? = some o ∧ o.isCells = false) : GrowM Y lo v Rs :=
  h.away hg fun j T cs hh e => by
    obtain ⟨o, ho, hc⟩ := hr j e.symm
    rw [show X.heap[j]? = _ from hh] at ho
    cases ho
    cases hc
theorem growM_own {β : Type} (lo B : Nat) (t : TypeId) (f : β → List (List Int)) (P : β → Value → Prop) : Own (fun s W => ∃ v, Boxed W B t v ∧ GrowM W lo v (f s) ∧ P s v) := by
  rintro s X Y q ⟨v, hv, h, hP⟩ hg hrow
  have hq : ∀ j T cs, Has X j T cs → some j ≠ q := fun j T cs hh e => by
    obtain ⟨o, ho, hc⟩ := hrow j e.symm
    rw [show X.heap[j]? = _ from hh] at ho
    cases ho
    cases hc
  exact ⟨v, hv.kept hg (hq _ _ _ hv), h.away hg hq, hP⟩
theorem GrowM.own (h : GrowM w lo v Rs) : ∃ A c, v = .slice A Rs.length c ∧ OwnT w lo w.heap.size A Rs := by
  obtain ⟨G, C, ho, hr⟩ := h
  rcases Nat.eq_zero_or_pos Rs.length with h0 | h0
  · obtain rfl := List.length_eq_zero_iff.1 h0
    rcases ho.2 with ⟨rfl, _⟩ | ⟨g, cap, cur, rfl, _⟩
    · exact ⟨none, 0, rfl, OwnT.nil _ _ _ (Nat.le_refl _)⟩
    · exact ⟨_, _, rfl, OwnT.nil _ _ _ (Nat.le_refl _)⟩
  · obtain ⟨g, c, cs, rfl, hlo, hnc, hhas, hget⟩ := row_block ho h0
    refine ⟨_, _, rfl, Nat.le_refl _, fun _ => ⟨g, 0, fun i => some ⟨G i, 0, none⟩, G, fun _ => 0, C, rfl, hlo, hhas.lt, ?_, ?_, ?_⟩⟩
    · exact {
        outer := fun i hi => by rw [Nat.zero_add, hhas.cell, hget i hi, rowVM_get hi]
        addr := fun i hi _ => rfl
        wr := fun i hi j hj => by
          try dsimp only at hj
          obtain ⟨cs', h1, h2⟩ := hr.has i hi
          exact ⟨⟨_, by rw [Nat.zero_add, h1.cell, h2 j hj]⟩, h1.free _⟩
        apart := fun i hi i' hi' hne o' hs => by
          have e := hs.1.1
          exact hr.apart i i' hi hi' hne e.symm
        off := fun i hi _ e => by
          obtain ⟨cs', h1, _⟩ := hr.has i hi
          have e' : G i = g := e
          rw [e'] at h1
          have h3 := (show w.heap[g]? = _ from h1).symm.trans (show w.heap[g]? = _ from hhas)
          simp at h3 }
    · intro i hi _
      exact ⟨hr.lo_le i hi, hr.lt hi⟩
    · intro i hi j hj
      obtain ⟨cs', h1, h2⟩ := hr.has i hi
      rw [Nat.zero_add, h1.cell, h2 j hj]
theorem GrowI.low {lo' n : Nat} {xs : List Int} (h : GrowI w lo v n xs) (hl : lo' ≤ lo) : GrowI w lo' v n xs := by
  refine ⟨⟨h.1.1, ?_⟩, h.2⟩
  rcases h.1.2 with h0 | ⟨g, cap, cur, e, hg, hrest⟩
  · exact .inl h0
  · exact .inr ⟨g, cap, cur, e, Nat.le_trans hl hg, hrest⟩
end

set_option maxRecDepth 100000 in
set_option maxHeartbeats 1000000 in
theorem appendSet_g (Bs s : Nat) (w : World) (hs : s < 256) (hBs : Bs < w.heap.size) (hc : w.cell? ⟨Bs, 0, none⟩ = some (.int .u64 (s : Int))) (hT : TabL w) :
    Calls Tryz.prog 111 #[.slice none 0 0, .func (.func 112) #[] #[.pointer (some ⟨Bs, 0, none⟩)]] w fun e w' => ∃ A' c', e = .returned (.slice A' (elI s).length c') ∧ Ex w w' ∧ GrowI w' w.heap.size (.slice A' (elI s).length c') (elI s).length (elI s) := by
  obtain ⟨i0, hi, hi0, hi1, hi2⟩ := info_parts infoI
  have hlen := elN_len s hs
  refine (callsIn_wide (n := 8)).1 ?_
  refine callsIn_of_wp_marks Tryz.func111 rfl trivial ?_ rfl
  simp only [Tryz.ntmps111, List.size_toArray, List.length_cons, List.length_nil, Nat.reduceAdd, Nat.reduceSub, Array.replicate_succ, Array.replicate_zero, List.push_toArray, List.append_toArray, List.nil_append, List.cons_append]
  have bS := Boxed.new w 25 (.slice none 0 0)
  have hB0 : Below w.heap.size w (w.alloc (.cells #[.slice none 0 0] 25)) := (Below.refl _ w).alloc (Nat.le_refl _) _
  have hz0 : (w.alloc (.cells #[.slice none 0 0] 25)).heap.size = w.heap.size + 1 := by simp
  have hcg : (w.alloc (.cells #[.slice none 0 0] 25)).cell? ⟨Bs, 0, none⟩ = some (.int .u64 (s : Int)) := (hB0.cell (p := ⟨Bs, 0, none⟩) hBs).trans hc
  have hT0 : TabL (w.alloc (.cells #[.slice none 0 0] 25)) := hT.below hB0 hT.lt
  have hTl := hT.lt
  clear hc hT
  gi_wp2_with fail
  obtain ⟨W0, hW0⟩ : ∃ W0, w.alloc (.cells #[.slice none 0 0] 25) = W0 := ⟨_, rfl⟩
  rw [hW0] at bS hB0 hz0 hcg hT0 ⊢
  clear hW0
  refine range_top (n := 8) (n₀ := w.heap.size) (by omega) (gf := 112) (lb := #[.pointer (some ⟨Bs, 0, none⟩)]) rfl (enters_of Tryz.func112 (by kernel_rfl) rfl)
    (all_stops 7 (by omega) Bs w.heap.size s W0 hs (by omega) hcg hT0 hTl) (by omega) (fun _ => rfl)
    (fun pre W => ∃ v, Boxed W w.heap.size 25 v ∧ W.ownsRow w.heap.size 2 1 v pre.length (rowA pre) ∧ True)
    (fun c' _ W => False)
    (Own.from (holdsRow_own w.heap.size w.heap.size 25 2 1 (fun pre : List {a : Nat // a ∈ elN s} => pre.length) (fun pre => rowA pre) (fun _ _ => True)) _)
    (fun _ => ownFrom_pure _ _)
    ⟨_, bS, ⟨rfl, .inl ⟨rfl, rfl⟩⟩, trivial⟩ ?round ?done ?stop
  case round =>
    intro l x W K hK
    have HK := Lib.hid hK
    clear hK
    gi_wp2
    refine HK.out _ ?_
    clear HK
    rintro l pre W hr ⟨v, bS1, hown, _⟩ hKW hlt
    obtain ⟨k, hk⟩ := x
    have hle := hKW.size
    have HOWN := Lib.hid hown
    have HBS := Lib.hid bS1
    have hbox := bS1.cell
    clear hown bS1 hKW
    have hkn : pre.length + 1 ≤ 1048576 := by omega
    gi_wp2_with (gi_at_builtin; refine wpListIn_append_own _ rfl _ _ 25 rfl w.heap.size 2 i0 (.int .i64 0) 1 8 Tryz.underlying25 hi hi0 hi1 hi2 rfl (by decide) _ _ _ rfl (HOWN.out.alloc _) ⟨W.heap.size, 0, none⟩ 1 1 [.int .i64 (k : Int)] rfl rfl (cell_one_new _ _ _) (by simp [Value.oneCell']) (by unfold maxLen; omega) (by omega) (by simp; omega) ?_; intro v' w3 hown3 hgrow3 _; obtain ⟨f1, f2, f3, f4, f5⟩ := HBS.out.appended (by decide) HOWN.out (by omega) (Nat.le_refl _) hown3 hgrow3; obtain ⟨g3, cap3, rfl⟩ := ownsRow_succ hown3; have hc3 := f1.cell; have hz3 := f1.frozen)
    exact ⟨⟨f5, f4.from 0⟩, _, f2, by rw [List.length_append, rowA_snoc]; exact f3⟩
  case done =>
    rintro D xs W hD hxs ⟨v, bS1, hown, _⟩ hKW hK
    have HKW := Lib.hid hKW
    have hle := hKW.size
    have hxl := elI_vlen hxs
    have hown8 := ownsRow_putObj hown (.deferred none) hK rfl
    rw [elI_vals hxs] at hown hown8
    obtain ⟨A', c', rfl, _⟩ := own_ints hown hxl.symm (by omega) (by omega)
    rw [hxl] at hown8
    have HO : Hid (GrowI (W.putObj D (.deferred none)) w.heap.size (.slice A' (elI s).length c') (elI s).length (elI s)) := Lib.hid ⟨hown8, rfl⟩
    have hbz := Lib.hid (belowK_b (w := w) (Nat.le_refl _) W D _ (.deferred none) (by omega) hK rfl rfl)
    have hbox := bS1.cell
    clear hKW hown hown8 hxs hxl
    gi_wp2
    refine ⟨by simp, .inl ⟨_, _, rfl, run_takeDeferred hK, ?_⟩⟩
    refine ⟨.slice A' (elI s).length c', ?_, A', c', rfl, (hB0.trans HKW.out.1).trans hbz.out, HO.out⟩
    simp [results, Tryz.f111, go_sem]
  case stop =>
    rintro D c' pre W hD hpre h
    exact h.elim

set_option maxHeartbeats 400000 in
theorem collectSet_g (Bs s : Nat) (w : World) (hs : s < 256) (hBs : Bs < w.heap.size) (hc : w.cell? ⟨Bs, 0, none⟩ = some (.int .u64 (s : Int))) (hT : TabL w) :
    Calls Tryz.prog 76 #[.func (.func 112) #[] #[.pointer (some ⟨Bs, 0, none⟩)]] w fun e w' => ∃ A' c', e = .returned (.slice A' (elI s).length c') ∧ Ex w w' ∧ GrowI w' w.heap.size (.slice A' (elI s).length c') (elI s).length (elI s) := by
  have HC := Lib.hid (appendSet_g Bs s w hs hBs hc hT)
  clear hc hT
  go_enter Tryz.func76, Tryz.ntmps76
  go_wp2_with fail
  refine HC.out.mono ?_
  rintro e W1 ⟨A', c', rfl, hb, hO⟩
  have HB := Lib.hid hb
  have HO := Lib.hid hO
  clear hb hO
  go_wp2
  go_ret
  exact ⟨A', c', rfl, HB.out, HO.out⟩

set_option maxHeartbeats 400000 in
theorem setList_g (s : Nat) (w : World) (hs : s < 256) (hT : TabL w) :
    Calls Tryz.prog 39 #[.int .u64 (s : Int)] w fun e w' => ∃ A' c', e = .returned (.slice A' (elI s).length c') ∧ Ex w w' ∧ GrowI w' w.heap.size (.slice A' (elI s).length c') (elI s).length (elI s) := by
  have e0 := Ex.new w (.cells #[.int .u64 (s : Int)] 66)
  have HC := Lib.hid (collectSet_g w.heap.size s (w.alloc (.cells #[.int .u64 (s : Int)] 66)) hs (by simp) ((Has.new w 66 #[.int .u64 (s : Int)]).cell 0) (hT.below e0.below hT.lt))
  have HE := Lib.hid e0
  clear hT e0
  go_enter Tryz.func39, Tryz.ntmps39
  go_wp2_with fail
  refine (setAll_any s w).mono ?_
  rintro e W1 ⟨rfl, rfl⟩
  go_wp2_with fail
  refine HC.out.mono ?_
  rintro e W1 ⟨A', c', rfl, hb, hO⟩
  have HB := Lib.hid hb
  have HO := Lib.hid hO
  clear hb hO
  go_wp2
  go_ret
  exact ⟨A', c', rfl, HE.out.trans HB.out, HO.out.low HE.out.size⟩

set_option maxRecDepth 100000 in
set_option maxHeartbeats 1000000 in
theorem l01List_g (s : Nat) (w : World) (hs : s < 256) :
    Calls Tryz.prog 42 #[.int .i64 (s : Int)] w fun e w' => ∃ (C0 : Option Addr) (e0 : Nat), e = .returned (.slice C0 (elI s).length e0) ∧ Ex w w' ∧ GrowI w' w.heap.size (.slice C0 (elI s).length e0) (elI s).length (elI s) := by
  obtain ⟨i0, hi, hi0, hi1, hi2⟩ := info_parts infoI
  have HE0 := Lib.hid (Ex.new w (.cells #[] 2))
  have HG0 := Lib.hid (GrowI.empty (lo := w.heap.size) w (Nat.le_refl _))
  rw [elI_selI]
  go_enter Tryz.func42, Tryz.ntmps42
  go_wp2_with fail
  generalize w.alloc (.cells #[] 2) = W0 at *
  go_loopw [3, 4] (fun v i wr => ∃ k : Nat, k ≤ 8 ∧ i = .int .i64 (k : Int) ∧ Hid (Ex w wr) ∧ Hid (GrowI wr w.heap.size v (selI (fun a => s.testBit a) k).length (selI (fun a => s.testBit a) k))) (fun _ i _ => 8 - (intOf i).toNat)
  case atStart => exact ⟨0, Nat.zero_le _, rfl, HE0, HG0⟩
  case round =>
    obtain ⟨k, hk, rfl, HE, HG⟩ := hrel
    have hkl : (selI (fun a => s.testBit a) k).length ≤ k := selI_len
    by_cases hlt : k < 8
    · have hz := HE.out.size
      have hb := bit_test s hs k hlt
      cases hq : s.testBit k with
      | true =>
        rw [hq] at hb
        have HKI := Lib.hid (selI_yes (p := fun a => s.testBit a) hq)
        clear hq
        obtain ⟨xs, hxs⟩ : ∃ xs, selI (fun a => s.testBit a) k = xs := ⟨_, rfl⟩
        rw [hxs] at HG HKI hkl
        clear hxs
        go_wp2_with (at_builtin; refine wpList_append_own _ rfl _ _ 25 rfl w.heap.size 2 i0 (.int .i64 0) 1 8 Tryz.underlying25 hi hi0 hi1 hi2 rfl (by decide) _ _ _ rfl (HG.out.1.alloc _) ⟨wr.heap.size, 0, none⟩ 1 1 [.int .i64 (k : Int)] rfl rfl (cell_one_new _ _ _) (by simp [Value.oneCell']) (by unfold maxLen; omega) (by omega) (by simp; omega) ?_; intro v' w3 hown3 hgrow3 _; have G3 := HG.out.ex (Ex.new wr (.cells #[.int .i64 (k : Int)] 2)); have HE3 := Lib.hid (Ex.grew (HE.out.alloc _) G3 (Nat.le_refl _) hgrow3); have HG3 := Lib.hid (G3.snoc hown3); clear hown3 hgrow3 G3)
        go_roundw
        case rel => exact ⟨k + 1, by omega, by go_num, HE3, by rw [HKI.out, List.length_append]; exact HG3⟩
        case measure => simp [intOf]; omega
      | false =>
        rw [hq] at hb
        have HKI := Lib.hid (selI_no (p := fun a => s.testBit a) hq)
        clear hq
        go_wp2_with fail
        go_roundw
        case rel => exact ⟨k + 1, by omega, by go_num, HE, by rw [HKI.out]; exact HG⟩
        case measure => simp [intOf]; omega
    · obtain rfl : k = 8 := by omega
      obtain ⟨A', n', rfl⟩ := HG.out.form
      go_wp2_with fail
      go_ret
      exact ⟨A', n', rfl, HE.out, HG.out⟩


end Go.Proofs.YtcdijeeabgmgmaaGreatDoor
