/- The centre: both sides' search for it; CentreOf: both contracts. -/
import Derived.Test.YtfnjpbjlikajbaaDoorCel
import Derived.Test.YtfnjpbjlikajbaaDoorBts
import Derived.Test.YtfnjpbjlikajbaaDoorSm
import Derived.Test.YtfnjpbjlikajbaaDoorIsg
namespace Go.Proofs.YtfnjpbjlikajbaaDoor
open Go.RowKit Go.Shelf

attribute [local go_sem] Oper.semAt_some

/-- Is a b = b a, for the first j elements b? -/
def comAt (t : List (List Int)) (a b : Nat) : Bool := nth (row t a) b == nth (row t b) a
def comB (t : List (List Int)) (a j : Nat) : Bool := (List.range j).all fun b => comAt t a b
theorem comB_succ (t : List (List Int)) (a j : Nat) : comB t a (j + 1) = (comB t a j && comAt t a j) := by simp [comB, List.range_succ]
def cenP (t : List (List Int)) (a : Nat) : Bool := comB t a t.length
def ComAt (t : List (List Int)) (a b : Nat) : Prop := nth (row t a) b = nth (row t b) a
theorem cenP_true {t : List (List Int)} {a : Nat} (h : ∀ x : Fin t.length, ComAt t a x.val) : cenP t a = true := by
  simp only [cenP, comB, List.all_eq_true, List.mem_range, comAt, beq_iff_eq]
  exact fun b hb => h ⟨b, hb⟩
theorem cenP_false {t : List (List Int)} {a : Nat} (h : ∃ x : Fin t.length, ¬ ComAt t a x.val) : cenP t a = false := by
  obtain ⟨x, hx⟩ := h
  cases hc : cenP t a
  · rfl
  · simp only [cenP, comB, List.all_eq_true, List.mem_range, comAt, beq_iff_eq] at hc
    exact absurd (hc x.val x.isLt) hx

set_option maxRecDepth 100000 in
set_option maxHeartbeats 2000000 in
theorem l01Centre_any (A : Option Addr) (t : List (List Int)) (c : Nat) (w : World) (hR : RwsW w A t) (hg : IsGrp t) :
    Calls Tryd.prog 36 #[.agg #[.slice A t.length c]] w fun e w' => ∃ (C0 : Option Addr) (e0 : Nat), e = .returned (.slice C0 (selI (cenP t) t.length).length e0) ∧ Ex w w' ∧ OwnL w' w.heap.size w'.heap.size C0 (selI (cenP t) t.length) := by
  obtain ⟨b, o, bb, oo, C, rfl, hQ⟩ := hR.sq hg
  obtain ⟨i0, hi, hi0, hi1, hi2⟩ := info_parts infoI
  have e0 : Ex w (w.alloc (.cells #[.slice (some ⟨b, o, none⟩) t.length c] 36)) := (Ex.refl w).alloc _
  have b0 : Has (w.alloc (.cells #[.slice (some ⟨b, o, none⟩) t.length c] 36)) (w.heap.size) 36 #[.slice (some ⟨b, o, none⟩) t.length c] := (Has.newAt (w := w) (e := 36) (cs := #[.slice (some ⟨b, o, none⟩) t.length c]) (k := w.heap.size) (by simp))
  have hn8 := hg.n8
  have HQ := Lib.hid hQ
  have HE0 := Lib.hid (e0.alloc (.cells #[] 2))
  have HB0 := Lib.hid (b0.alloc (.cells #[] 2))
  have hg0 := GrowI.empty (lo := w.heap.size) _ e0.size
  rw [show (w.alloc (.cells #[.slice (some ⟨b, o, none⟩) t.length c] 36)).heap.size = w.heap.size + 1 by simp] at hg0
  have HG0 := Lib.hid hg0
  clear hQ hg hR b0 e0 hg0
  go_enter Tryd.func36, Tryd.ntmps36
  go_wp2_with fail
  generalize (w.alloc (.cells #[.slice (some ⟨b, o, none⟩) t.length c] 36)).alloc (.cells #[] 2) = W0 at *
  go_loopw [3, 4] (fun v i wr => ∃ k : Nat, k ≤ t.length ∧ i = .int .i64 (k : Int) ∧ Hid (Ex w wr) ∧ Hid (Has wr w.heap.size 36 #[.slice (some ⟨b, o, none⟩) t.length c]) ∧ Hid (GrowI wr w.heap.size v (selI (cenP t) k).length (selI (cenP t) k))) (fun _ i _ => t.length - (intOf i).toNat)
  case atStart => exact ⟨0, Nat.zero_le _, rfl, HE0, HB0, HG0⟩
  case round =>
    obtain ⟨k, hk, rfl, HE, HB, HG⟩ := hrel
    have c1 := HB.out.cell 0
    go_wp2_with fail
    refine (l01N_ex _ _ _ _ (by omega)).mono ?_
    rintro e W1 ⟨rfl, he1⟩
    have HE1 := Lib.hid (HE.out.trans he1)
    have HB1 := Lib.hid (HB.out.ex he1)
    have HG1 := Lib.hid (HG.out.ex he1)
    clear c1 he1 HE HB HG
    have hkl : (selI (cenP t) k).length ≤ k := selI_len
    by_cases hlt : k < t.length
    · go_wp2_with fail
      go_loopw [5, 6] (fun g i wr => ∃ j : Nat, j ≤ t.length ∧ i = .int .i64 (j : Int) ∧ g = .bool (comB t k j) ∧ Hid (Ex W1 wr)) (fun _ i _ => t.length - (intOf i).toNat)
      case atStart => exact ⟨0, Nat.zero_le _, rfl, rfl, Lib.hid (Ex.refl _)⟩
      case round =>
        obtain ⟨j, hj, rfl, rfl, HE2⟩ := hrel
        have c1 := (HB1.out.ex HE2.out).cell 0
        go_wp2_with fail
        refine (l01N_ex _ _ _ _ (by omega)).mono ?_
        rintro e W2 ⟨rfl, he2⟩
        have HE3 := Lib.hid (HE2.out.trans he2)
        clear c1 he2 HE2
        by_cases hlt2 : j < t.length
        · have hq := HQ.out.ex (HE1.out.trans HE3.out)
          have hrk := hq.row_ hlt
          have hrj := hq.row_ hlt2
          have hekj := hq.ent_ hlt hlt2
          have hejk := hq.ent_ hlt2 hlt
          have c2 := (HB1.out.ex HE3.out).cell 0
          have hs := comB_succ t k j
          obtain ⟨g, hgb⟩ : ∃ g, comB t k j = g := ⟨_, rfl⟩
          obtain ⟨q, hqb⟩ : ∃ q, (nth (row t k) j == nth (row t j) k) = q := ⟨_, rfl⟩
          rw [hgb, show comAt t k j = (nth (row t k) j == nth (row t j) k) from rfl, hqb] at hs
          rw [hgb]
          have HS := Lib.hid hs
          clear hq hs hgb
          cases g with
          | true =>
            rw [Bool.true_and] at HS
            go_wp2_with fail
            go_quiet (fail)
            go_wp2_with fail
            go_roundw
            case rel => exact ⟨j + 1, by omega, by go_num, by rw [HS.out], Lib.hid (Ex.drewN HE3.out _)⟩
            case measure => simp [intOf]; omega
          | false =>
            rw [Bool.false_and] at HS
            go_wp2_with fail
            go_quiet (fail)
            go_wp2_with fail
            go_roundw
            case rel => exact ⟨j + 1, by omega, by go_num, by rw [HS.out], Lib.hid (Ex.drewN HE3.out _)⟩
            case measure => simp [intOf]; omega
        · obtain rfl : j = t.length := by omega
          have hgd : comB t k t.length = cenP t k := rfl
          rw [hgd]
          clear hgd
          have HB2 := Lib.hid (HB1.out.ex HE3.out)
          have HG2 := Lib.hid (HG1.out.ex HE3.out)
          have HE4 := Lib.hid (HE1.out.trans HE3.out)
          have hz := HE4.out.size
          clear HE3 HE1 HB1 HG1
          cases hq : cenP t k with
          | true =>
            have HKI := Lib.hid (selI_yes hq)
            clear hq
            obtain ⟨xs, hxs⟩ : ∃ xs, selI (cenP t) k = xs := ⟨_, rfl⟩
            rw [hxs] at HG2 HKI hkl
            clear hxs
            go_wp2_with (at_builtin; refine wpList_append_own _ rfl _ _ 22 rfl w.heap.size 2 i0 (.int .i64 0) 1 8 Tryd.underlying22 hi hi0 hi1 hi2 rfl (by decide) _ _ _ rfl (HG2.out.1.alloc _) ⟨W2.heap.size, 0, none⟩ 1 1 [.int .i64 (k : Int)] rfl rfl (cell_one_new _ _ _) (by simp [Value.oneCell']) (by unfold maxLen; omega) (by omega) (by simp; omega) ?_; intro v' w3 hown3 hgrow3 _; have G3 := HG2.out.ex (Ex.new W2 (.cells #[.int .i64 (k : Int)] 2)); have HE5 := Lib.hid (Ex.grew (HE4.out.alloc _) G3 (Nat.le_refl _) hgrow3); have HB5 := Lib.hid (Has.grew (HB2.out.alloc _) (by decide) G3 hgrow3); have HG5 := Lib.hid (G3.snoc hown3); clear hown3 hgrow3 G3)
            go_roundw
            case rel => exact ⟨k + 1, by omega, by go_num, HE5, HB5, by rw [HKI.out, List.length_append]; exact HG5⟩
            case measure => simp [intOf]; omega
          | false =>
            have HKI := Lib.hid (selI_no hq)
            clear hq
            go_wp2_with fail
            go_roundw
            case rel => exact ⟨k + 1, by omega, by go_num, HE4, HB2, by rw [HKI.out]; exact HG2⟩
            case measure => simp [intOf]; omega
    · obtain rfl : k = t.length := by omega
      obtain ⟨A', n', rfl, hO⟩ := HG1.out.own
      have HO := Lib.hid hO
      clear hO
      go_wp2_with fail
      go_ret
      exact ⟨A', n', rfl, HE1.out, HO.out⟩

set_option maxRecDepth 100000 in
set_option maxHeartbeats 1000000 in
theorem commutesWithAll_any (t : List (List Int)) (c a B b o : Nat) (bb oo C : Nat → Nat) (w : World) (hQ : SqT w B b o bb oo C t) (hB : B ≤ w.heap.size) (hn8 : t.length ≤ 8) (ha : a < t.length) :
    Calls Tryd.prog 93 #[.agg #[.slice (some ⟨b, o, none⟩) t.length c], .int .i64 (a : Int)] w fun e w' => e = .returned (.bool (cenP t a)) ∧ Ex w w' := by
  have HQ := Lib.hid hQ
  clear hQ
  refine (callsIn_wide (n := 8)).1 ?_
  refine callsIn_of_wp_marks Tryd.func93 rfl trivial ?_ rfl
  simp only [Tryd.ntmps93, List.size_toArray, List.length_cons, List.length_nil, Nat.reduceAdd, Nat.reduceSub, Array.replicate_succ, Array.replicate_zero, List.push_toArray, List.append_toArray, List.nil_append, List.cons_append]
  gi_wp2_with (refine ⟨trivial, ?_⟩; gi_at_call 91; refine (callsIn_wide.2 (elementsOf_any _ t.length c _)).mono ?_; rintro e w' ⟨rfl, rfl⟩)
  have e0 : Ex w ((((w.alloc (.cells #[.slice (some ⟨b, o, none⟩) t.length c] 36)).alloc (.cells #[.int .i64 (a : Int)] 2)).alloc (.cells #[.bool false] 4)).alloc (.cells #[.slice (some ⟨b, o, none⟩) t.length c] 36)) := ((((Ex.refl w).alloc _).alloc _).alloc _).alloc _
  have b0 : Has ((((w.alloc (.cells #[.slice (some ⟨b, o, none⟩) t.length c] 36)).alloc (.cells #[.int .i64 (a : Int)] 2)).alloc (.cells #[.bool false] 4)).alloc (.cells #[.slice (some ⟨b, o, none⟩) t.length c] 36)) (w.heap.size) 36 #[.slice (some ⟨b, o, none⟩) t.length c] := ((((Has.newAt (w := w) (e := 36) (cs := #[.slice (some ⟨b, o, none⟩) t.length c]) (k := w.heap.size) (by simp)).alloc _).alloc _).alloc _)
  have b1 : Has ((((w.alloc (.cells #[.slice (some ⟨b, o, none⟩) t.length c] 36)).alloc (.cells #[.int .i64 (a : Int)] 2)).alloc (.cells #[.bool false] 4)).alloc (.cells #[.slice (some ⟨b, o, none⟩) t.length c] 36)) (w.heap.size + 1) 2 #[.int .i64 (a : Int)] := (((Has.newAt (w := (w.alloc (.cells #[.slice (some ⟨b, o, none⟩) t.length c] 36))) (e := 2) (cs := #[.int .i64 (a : Int)]) (k := w.heap.size + 1) (by simp)).alloc _).alloc _)
  have b2 : Has ((((w.alloc (.cells #[.slice (some ⟨b, o, none⟩) t.length c] 36)).alloc (.cells #[.int .i64 (a : Int)] 2)).alloc (.cells #[.bool false] 4)).alloc (.cells #[.slice (some ⟨b, o, none⟩) t.length c] 36)) (w.heap.size + 1 + 1) 4 #[.bool false] := ((Has.newAt (w := ((w.alloc (.cells #[.slice (some ⟨b, o, none⟩) t.length c] 36)).alloc (.cells #[.int .i64 (a : Int)] 2))) (e := 4) (cs := #[.bool false]) (k := w.heap.size + 1 + 1) (by simp)).alloc _)
  have b3 : Has ((((w.alloc (.cells #[.slice (some ⟨b, o, none⟩) t.length c] 36)).alloc (.cells #[.int .i64 (a : Int)] 2)).alloc (.cells #[.bool false] 4)).alloc (.cells #[.slice (some ⟨b, o, none⟩) t.length c] 36)) (w.heap.size + 1 + 1 + 1) 36 #[.slice (some ⟨b, o, none⟩) t.length c] := (Has.newAt (w := (((w.alloc (.cells #[.slice (some ⟨b, o, none⟩) t.length c] 36)).alloc (.cells #[.int .i64 (a : Int)] 2)).alloc (.cells #[.bool false] 4))) (e := 36) (cs := #[.slice (some ⟨b, o, none⟩) t.length c]) (k := w.heap.size + 1 + 1 + 1) (by simp))
  have hsz : ((((w.alloc (.cells #[.slice (some ⟨b, o, none⟩) t.length c] 36)).alloc (.cells #[.int .i64 (a : Int)] 2)).alloc (.cells #[.bool false] 4)).alloc (.cells #[.slice (some ⟨b, o, none⟩) t.length c] 36)).heap.size = w.heap.size + 1 + 1 + 1 + 1 := by simp
  generalize ((((w.alloc (.cells #[.slice (some ⟨b, o, none⟩) t.length c] 36)).alloc (.cells #[.int .i64 (a : Int)] 2)).alloc (.cells #[.bool false] 4)).alloc (.cells #[.slice (some ⟨b, o, none⟩) t.length c] 36)) = W0 at *
  refine range_top (n := 8) (n₀ := w.heap.size) (by omega) (gf := 101) (lb := #[.pointer (some ⟨w.heap.size + 1 + 1 + 1, 0, none⟩)]) rfl (enters_of Tryd.func101 (by kernel_rfl) rfl)
    (elements_stops 7 (by omega) (w.heap.size + 1 + 1 + 1) w.heap.size t.length c _ W0 (by omega) (b3.cell 0) (by omega)) (by omega) (fun _ => rfl)
    (fun pre W => ((∀ x ∈ pre, ComAt t a x.val) ∧ Has W (w.heap.size + 1 + 1) 4 #[.bool false]) ∧ Has W w.heap.size 36 #[.slice (some ⟨b, o, none⟩) t.length c] ∧ Has W (w.heap.size + 1) 2 #[.int .i64 (a : Int)])
    (fun c' _ W => (c' = .ret ∧ ∃ x : Fin t.length, ¬ ComAt t a x.val) ∧ Has W (w.heap.size + 1 + 1) 4 #[.bool false])
    (OwnFrom.and (OwnFrom.and (ownFrom_pure _ _) (Own.from (has_own _ _ _) _)) (OwnFrom.and (Own.from (has_own _ _ _) _) (Own.from (has_own _ _ _) _)))
    (fun _ => OwnFrom.and (ownFrom_pure _ _) (Own.from (has_own _ _ _) _))
    ⟨⟨by simp, b2⟩, b0, b1⟩ ?round ?done ?stop
  case round =>
    intro l x W K hK
    have HK := Lib.hid hK
    clear hK
    gi_wp2
    refine HK.out _ ?_
    clear HK
    rintro l pre W hr ⟨⟨hp, bR1⟩, bG1, bA1⟩ hKW _
    obtain ⟨k, hlt⟩ := x
    have HKW := Lib.hid hKW
    have HP := Lib.hid hp
    have HBR := Lib.hid bR1
    have HBG := Lib.hid bG1
    have HBA := Lib.hid bA1
    have hQ := (HQ.out.below (Ex.below e0) hB).below hKW.1 hB
    have hbox := bG1.cell 0
    have hbox1 := bA1.cell 0
    have hres := bR1.cell 0
    have hfre := bR1.free 0
    have hra := hQ.row_ ha
    have hrk := hQ.row_ hlt
    have heak := hQ.ent_ ha hlt
    have heka := hQ.ent_ hlt ha
    clear hQ hKW hp bR1 bG1 bA1
    by_cases h1 : nth (row t a) k = nth (row t k) a
    · have h1' : (nth (row t a) k != nth (row t k) a) = false := by simp [h1]
      have H1 := Lib.hid h1
      clear h1
      gi_wp2
      refine region_quiet_round (by kernel_rfl) (by kernel_rfl) (by kernel_rfl) ?_
      repeat (gi_big_quiet_step (fail))
      refine wpQuietIn_nil ?_
      intro _ hw'
      obtain ⟨nq, hw''⟩ := hw'
      subst hw''
      gi_wp2
      exact ⟨(Keeps.refl _ _).drewN _, ⟨fun y hy => (List.mem_append.1 hy).elim (HP.out y) (fun e => by simp at e; subst e; exact H1.out), HBR.out.drewN _⟩, HBG.out.drewN _, HBA.out.drewN _⟩
    · have h1' : (nth (row t a) k != nth (row t k) a) = true := by simp [h1]
      have H1 := Lib.hid h1
      clear h1
      gi_wp2
      refine region_quiet_round (by kernel_rfl) (by kernel_rfl) (by kernel_rfl) ?_
      repeat (gi_big_quiet_step (fail))
      refine wpQuietIn_nil ?_
      intro _ hw'
      obtain ⟨nq, hw''⟩ := hw'
      subst hw''
      gi_wp2
      exact ⟨((Keeps.refl _ _).drewN _).setCell (p := ⟨w.heap.size + 1 + 1, 0, none⟩) (by show w.heap.size ≤ w.heap.size + 1 + 1; omega) _, ⟨rfl, ⟨k, hlt⟩, H1.out⟩, (HBR.out.drewN _).put1⟩
  case done =>
    rintro D xs W hD rfl ⟨⟨hp, bR1⟩, _⟩ hKW hK
    have hres := bR1.cell 0
    have hfre := bR1.free 0
    have HP := Lib.hid hp
    have HKW := Lib.hid hKW
    clear hp hKW
    gi_wp2
    have hK' := (KeepsOthers.setCell W ⟨w.heap.size + 1 + 1, 0, none⟩ (.bool true)).same D _ hK rfl
    refine ⟨by simp, .inl ⟨_, _, rfl, run_takeDeferred hK', ?_⟩⟩
    have hc5 := cell_kept (show (W.setCell ⟨w.heap.size + 1 + 1, 0, none⟩ (.bool true)).cell? ⟨w.heap.size + 1 + 1, 0, none⟩ = some (.bool true) from (bR1.put1 (v := .bool true)).cell 0) (grownBy_putObj' _ D (.deferred none)) (fun r e => by cases e; exact ⟨_, hK', rfl⟩)
    refine ⟨.bool true, ?_, by rw [cenP_true (fun x => HP.out x (List.mem_finRange x))], (((Ex.below e0).trans HKW.out.1).setCell (p := ⟨w.heap.size + 1 + 1, 0, none⟩) (by show w.heap.size ≤ w.heap.size + 1 + 1; omega) _).trans (belowK_b (w := w) (Nat.le_refl _) _ D _ _ (by omega) hK' rfl rfl)⟩
    simp [results, Tryd.f93, go_sem, hc5]
  case stop =>
    rintro D c' pre W hD hpre ⟨⟨rfl, hx⟩, bR1⟩ hKW hK
    have HX := Lib.hid hx
    have HKW := Lib.hid hKW
    clear hx hKW
    gi_wp2
    refine ⟨by simp, .inl ⟨_, _, rfl, run_takeDeferred hK, ?_⟩⟩
    have hc5 := cell_kept (show W.cell? ⟨w.heap.size + 1 + 1, 0, none⟩ = some (.bool false) from bR1.cell 0) (grownBy_putObj' _ D (.deferred none)) (fun r e => by cases e; exact ⟨_, hK, rfl⟩)
    refine ⟨.bool false, ?_, by rw [cenP_false HX.out], ((Ex.below e0).trans HKW.out.1).trans (belowK_b (w := w) (Nat.le_refl _) W D _ _ (by omega) hK rfl rfl)⟩
    simp [results, Tryd.f93, go_sem, hc5]

set_option maxRecDepth 100000 in
set_option maxHeartbeats 1000000 in
theorem centreSet_any (A : Option Addr) (t : List (List Int)) (c : Nat) (w : World) (hR : RwsW w A t) (hg : IsGrp t) :
    Calls Tryd.prog 68 #[.agg #[.slice A t.length c]] w fun e w' => e = .returned (.int .u64 (pset (cenP t) (List.finRange t.length) : Int)) ∧ Ex w w' := by
  obtain ⟨b, o, bb, oo, C, rfl, hQ⟩ := hR.sq hg
  have hn8 := hg.n8
  have HQ := Lib.hid hQ
  clear hQ hR hg
  refine (callsIn_wide (n := 8)).1 ?_
  refine callsIn_of_wp_marks Tryd.func68 rfl trivial ?_ rfl
  simp only [Tryd.ntmps68, List.size_toArray, List.length_cons, List.length_nil, Nat.reduceAdd, Nat.reduceSub, Array.replicate_succ, Array.replicate_zero, List.push_toArray, List.append_toArray, List.nil_append, List.cons_append]
  gi_wp2_with (refine ⟨trivial, ?_⟩; gi_at_call 91; refine (callsIn_wide.2 (elementsOf_any _ t.length c _)).mono ?_; rintro e w' ⟨rfl, rfl⟩)
  have e0 : Ex w (((w.alloc (.cells #[.slice (some ⟨b, o, none⟩) t.length c] 36)).alloc (.cells #[.int .u64 0] 89)).alloc (.cells #[.slice (some ⟨b, o, none⟩) t.length c] 36)) := (((Ex.refl w).alloc _).alloc _).alloc _
  have b0 : Has (((w.alloc (.cells #[.slice (some ⟨b, o, none⟩) t.length c] 36)).alloc (.cells #[.int .u64 0] 89)).alloc (.cells #[.slice (some ⟨b, o, none⟩) t.length c] 36)) (w.heap.size) 36 #[.slice (some ⟨b, o, none⟩) t.length c] := (((Has.newAt (w := w) (e := 36) (cs := #[.slice (some ⟨b, o, none⟩) t.length c]) (k := w.heap.size) (by simp)).alloc _).alloc _)
  have b1 : Has (((w.alloc (.cells #[.slice (some ⟨b, o, none⟩) t.length c] 36)).alloc (.cells #[.int .u64 0] 89)).alloc (.cells #[.slice (some ⟨b, o, none⟩) t.length c] 36)) (w.heap.size + 1) 89 #[.int .u64 0] := ((Has.newAt (w := (w.alloc (.cells #[.slice (some ⟨b, o, none⟩) t.length c] 36))) (e := 89) (cs := #[.int .u64 0]) (k := w.heap.size + 1) (by simp)).alloc _)
  have b2 : Has (((w.alloc (.cells #[.slice (some ⟨b, o, none⟩) t.length c] 36)).alloc (.cells #[.int .u64 0] 89)).alloc (.cells #[.slice (some ⟨b, o, none⟩) t.length c] 36)) (w.heap.size + 1 + 1) 36 #[.slice (some ⟨b, o, none⟩) t.length c] := (Has.newAt (w := ((w.alloc (.cells #[.slice (some ⟨b, o, none⟩) t.length c] 36)).alloc (.cells #[.int .u64 0] 89))) (e := 36) (cs := #[.slice (some ⟨b, o, none⟩) t.length c]) (k := w.heap.size + 1 + 1) (by simp))
  have hsz : (((w.alloc (.cells #[.slice (some ⟨b, o, none⟩) t.length c] 36)).alloc (.cells #[.int .u64 0] 89)).alloc (.cells #[.slice (some ⟨b, o, none⟩) t.length c] 36)).heap.size = w.heap.size + 1 + 1 + 1 := by simp
  generalize (((w.alloc (.cells #[.slice (some ⟨b, o, none⟩) t.length c] 36)).alloc (.cells #[.int .u64 0] 89)).alloc (.cells #[.slice (some ⟨b, o, none⟩) t.length c] 36)) = W0 at *
  refine range_top (n := 8) (n₀ := w.heap.size) (by omega) (gf := 101) (lb := #[.pointer (some ⟨w.heap.size + 1 + 1, 0, none⟩)]) rfl (enters_of Tryd.func101 (by kernel_rfl) rfl)
    (elements_stops 7 (by omega) (w.heap.size + 1 + 1) w.heap.size t.length c _ W0 (by omega) (b2.cell 0) (by omega)) (by omega) (fun _ => rfl)
    (fun pre W => Has W (w.heap.size + 1) 89 #[.int .u64 (pset (cenP t) pre : Int)] ∧ Has W w.heap.size 36 #[.slice (some ⟨b, o, none⟩) t.length c])
    (fun c' _ W => False)
    (OwnFrom.and (Own.from (has_own _ _ _) _) (Own.from (has_own _ _ (fun _ => #[.slice (some ⟨b, o, none⟩) t.length c])) _))
    (fun _ => ownFrom_pure _ _)
    ⟨by simpa [pset] using b1, b0⟩ ?round ?done ?stop
  case round =>
    intro l x W K hK
    have HK := Lib.hid hK
    clear hK
    gi_wp2
    refine HK.out _ ?_
    clear HK
    rintro l pre W hr ⟨bS1, bG1⟩ hKW _
    obtain ⟨k, hlt⟩ := x
    have hq := (HQ.out.below (Ex.below e0) (Nat.le_refl _)).below hKW.1 (Nat.le_refl _)
    have hzW : w.heap.size ≤ W.heap.size := by have := hKW.size; omega
    have HCW := Lib.hid (commutesWithAll_any t c k w.heap.size b o bb oo C W hq hzW hn8 hlt)
    have hsn := pset_snoc (cenP t) pre ⟨k, hlt⟩
    rw [show ((⟨k, hlt⟩ : Fin t.length).val) = k from rfl] at hsn
    have hkl := pset_lt (cenP t) hn8 pre
    have c0 := bG1.cell 0
    have HSN := Lib.hid hsn
    have HBS := Lib.hid bS1
    have HBG := Lib.hid bG1
    clear hq hKW bS1 bG1 hsn
    obtain ⟨q, hqe⟩ : ∃ q, cenP t k = q := ⟨_, rfl⟩
    rw [hqe] at HCW HSN
    obtain ⟨s, hs⟩ : ∃ s, pset (cenP t) pre = s := ⟨_, rfl⟩
    rw [hs] at hkl HSN HBS
    clear hqe hs
    cases q with
    | true =>
      rw [if_pos rfl] at HSN
      gi_wp2_with (first
        | (refine ⟨trivial, ?_⟩; gi_at_call 93; refine (CallsIn.inRound l (callsIn_wide.2 HCW.out)).mono ?_; rintro e W9 ⟨rfl, he9⟩; have HE9 := Lib.hid he9; have cs := (HBS.out.ex he9).cell 0; have fs := (HBS.out.ex he9).free 0; clear he9)
        | (refine ⟨trivial, ?_⟩; gi_at_call 89; refine (callsIn_wide.2 (with_any s k _ hkl (by omega))).mono ?_; rintro e w' ⟨rfl, rfl⟩))
      refine ⟨(Keeps.of_below HE9.out hzW).setCell (p := ⟨w.heap.size + 1, 0, none⟩) (by show w.heap.size ≤ w.heap.size + 1; omega) _, ?_, (HBG.out.ex HE9.out).far (by show w.heap.size ≠ w.heap.size + 1; omega) _⟩
      show Has _ _ _ _
      rw [HSN.out]
      exact (HBS.out.ex HE9.out).put1
    | false =>
      rw [if_neg (by simp)] at HSN
      gi_wp2_with (refine ⟨trivial, ?_⟩; gi_at_call 93; refine (CallsIn.inRound l (callsIn_wide.2 HCW.out)).mono ?_; rintro e W9 ⟨rfl, he9⟩; have HE9 := Lib.hid he9; clear he9)
      refine ⟨Keeps.of_below HE9.out hzW, ?_, HBG.out.ex HE9.out⟩
      show Has _ _ _ _
      rw [HSN.out]
      exact HBS.out.ex HE9.out
  case done =>
    rintro D xs W hD rfl ⟨bS1, _⟩ hKW hK
    have hs := bS1.cell 0
    have HKW := Lib.hid hKW
    clear hKW bS1
    gi_wp2
    refine ⟨by simp, .inl ⟨_, _, rfl, run_takeDeferred hK, ?_⟩⟩
    exact ⟨_, results_tmp rfl _ _ _, rfl, ((Ex.below e0).trans HKW.out.1).trans (belowK_b (w := w) (Nat.le_refl _) W D _ _ (by omega) hK rfl rfl)⟩
  case stop =>
    rintro D c' pre W hD hpre h
    exact h.elim

noncomputable def yCentreOf0 (t : List (List Int)) : List Int := if grpB t = true then selI (cenP t) t.length else []
noncomputable def qCentreOf1 (t : List (List Int)) : Int := if grpB t = true then 0 else 1
section
variable {t : List (List Int)}
theorem cn_no (h : grpB t = false) : yCentreOf0 t = [] ∧ qCentreOf1 t = 1 := by simp [yCentreOf0, qCentreOf1, h]
theorem cn_yes (h : grpB t = true) : yCentreOf0 t = selI (cenP t) t.length ∧ qCentreOf1 t = 0 := by simp [yCentreOf0, qCentreOf1, h]
theorem centreOf_small0 (t : List (List Int)) : (yCentreOf0 t).length ≤ 1048576 := by
  unfold yCentreOf0
  split
  · rename_i h
    have := (grpB_iff.1 h).n8
    have := selI_len (p := cenP t) (k := t.length)
    omega
  · simp
end


end Go.Proofs.YtfnjpbjlikajbaaDoor
