/- KernelOf: both contracts. -/
import Derived.Test.YtdehalkebneaoaaDoorGr
import Derived.Test.YtdehalkebneaoaaDoorMf
import Derived.Test.YtdehalkebneaoaaDoorSm
import Derived.Test.YtdehalkebneaoaaDoorImC
namespace Go.Proofs.YtdehalkebneaoaaDoor
open Go.RowKit Go.Shelf

attribute [local go_sem] Oper.semAt_some

/-- The numbers of the units that are 1, below k. -/
def kerN (us : List Int) (k : Nat) : List Nat := (List.range k).filter fun i => nth us i == 1
def kerI (us : List Int) (k : Nat) : List Int := (kerN us k).map fun a : Nat => (a : Int)
theorem kerN_zero (us : List Int) : kerN us 0 = [] := rfl
theorem kerI_yes {us : List Int} {k : Nat} (h : (nth us k == 1) = true) : kerI us (k + 1) = kerI us k ++ [(k : Int)] := by simp [kerI, kerN, List.range_succ, h]
theorem kerI_no {us : List Int} {k : Nat} (h : (nth us k == 1) = false) : kerI us (k + 1) = kerI us k := by simp [kerI, kerN, List.range_succ, h]
theorem kerI_len (us : List Int) (k : Nat) : (kerI us k).length ≤ k := by
  simp only [kerI, kerN, List.length_map]
  exact Nat.le_trans (List.length_filter_le _ _) (by simp)
/-- A set with just these elements has this list. -/
theorem elI_of {s n : Nat} {us : List Int} (hn : n ≤ 8) (h : ∀ a, a < 8 → s.testBit a = (decide (a < n) && (nth us a == 1))) : elI s = kerI us n := by
  unfold elI kerI
  congr 1
  unfold elN kerN
  have h8 : List.range 8 = List.range n ++ (List.range (8 - n)).map (n + ·) := by rw [← List.range_add]; congr 1; omega
  have h1 : (List.range n).filter (fun a => s.testBit a) = (List.range n).filter fun i => nth us i == 1 := List.filter_congr fun a ha => by
    have := List.mem_range.1 ha
    rw [h a (by omega)]
    simp [this]
  have h2 : ((List.range (8 - n)).map (n + ·)).filter (fun a => s.testBit a) = [] := List.filter_eq_nil_iff.2 fun a ha => by
    obtain ⟨b, hb, rfl⟩ := List.mem_map.1 ha
    have := List.mem_range.1 hb
    rw [h _ (by omega), decide_eq_false (by omega)]
    simp
  rw [h8, List.filter_append, h1, h2, List.append_nil]

noncomputable def yKernelOf0 (t : List (List Int)) (m : Int) (us : List Int) : List Int := if gmB t m us = true then kerI us us.length else []
noncomputable def qKernelOf1 (t : List (List Int)) (m : Int) (us : List Int) : Int := gmC t m us
section
variable {t : List (List Int)} {m : Int} {us : List Int}
theorem ke_no (h : gmB t m us = false) : yKernelOf0 t m us = [] ∧ qKernelOf1 t m us = 1 := by simp [yKernelOf0, qKernelOf1, h, gmC_no h]
theorem ke_yes (h : gmB t m us = true) : yKernelOf0 t m us = kerI us us.length ∧ qKernelOf1 t m us = 0 := by simp [yKernelOf0, qKernelOf1, h, gmC_yes h]
theorem kernelOf_small0 (t : List (List Int)) (m : Int) (us : List Int) : (yKernelOf0 t m us).length ≤ 1048576 := by
  unfold yKernelOf0
  split
  · rename_i h
    obtain ⟨M, _, hF⟩ := gmB_f h
    have := hF.len
    have := hF.g.n8
    have := kerI_len us us.length
    omega
  · simp
end

set_option maxRecDepth 100000 in
set_option maxHeartbeats 2000000 in
theorem specKernelOf_ex (t0 : List (List Int)) (m1 : Int) (t1 : List Int) : ∀ (B0 : Option Addr) (d0 : Nat) (B1 : Option Addr) (d1 : Nat) (W : World), RwsW W B0 t0 → IntsW W B1 t1 → SmallT t0 → t1.length ≤ 1048576 →
    Calls Tryd.prog 47 #[.agg #[.slice B0 t0.length d0], .agg #[.int .i64 m1, .slice B1 t1.length d1]] W fun e W' => ∃ (C0 : Option Addr) (e0 : Nat), e = .returned (.tuple #[.slice C0 (yKernelOf0 t0 m1 t1).length e0, .int .i64 (qKernelOf1 t0 m1 t1)]) ∧ Ex W W' ∧ OwnL W' W.heap.size W'.heap.size C0 (yKernelOf0 t0 m1 t1) := by
  intro B0 d0 B1 d1 w hR hX hs hu
  obtain ⟨i0, hi, hi0, hi1, hi2⟩ := info_parts infoI
  have e0 : Ex w (((w.alloc (.cells #[.slice B0 t0.length d0] 29)).alloc (.cells #[.int .i64 m1, .slice B1 t1.length d1] 44)).alloc (.cells #[.int .i64 m1, .slice B1 t1.length d1] 44)) := (((Ex.refl w).alloc _).alloc _).alloc _
  have b0 : Has (((w.alloc (.cells #[.slice B0 t0.length d0] 29)).alloc (.cells #[.int .i64 m1, .slice B1 t1.length d1] 44)).alloc (.cells #[.int .i64 m1, .slice B1 t1.length d1] 44)) (w.heap.size) 29 #[.slice B0 t0.length d0] := (((Has.newAt (w := w) (e := 29) (cs := #[.slice B0 t0.length d0]) (k := w.heap.size) (by simp)).alloc _).alloc _)
  have b1 : Has (((w.alloc (.cells #[.slice B0 t0.length d0] 29)).alloc (.cells #[.int .i64 m1, .slice B1 t1.length d1] 44)).alloc (.cells #[.int .i64 m1, .slice B1 t1.length d1] 44)) (w.heap.size + 1) 44 #[.int .i64 m1, .slice B1 t1.length d1] := ((Has.newAt (w := (w.alloc (.cells #[.slice B0 t0.length d0] 29))) (e := 44) (cs := #[.int .i64 m1, .slice B1 t1.length d1]) (k := w.heap.size + 1) (by simp)).alloc _)
  have b2 : Has (((w.alloc (.cells #[.slice B0 t0.length d0] 29)).alloc (.cells #[.int .i64 m1, .slice B1 t1.length d1] 44)).alloc (.cells #[.int .i64 m1, .slice B1 t1.length d1] 44)) (w.heap.size + 1 + 1) 44 #[.int .i64 m1, .slice B1 t1.length d1] := (Has.newAt (w := ((w.alloc (.cells #[.slice B0 t0.length d0] 29)).alloc (.cells #[.int .i64 m1, .slice B1 t1.length d1] 44))) (e := 44) (cs := #[.int .i64 m1, .slice B1 t1.length d1]) (k := w.heap.size + 1 + 1) (by simp))
  have HC := Lib.hid (l02Code_ex B0 B1 t0 m1 t1 d0 d1 (w.heap.size + 1 + 1) _ (hR.ex e0) (hX.ex e0) hs hu b2)
  cases hg : gmB t0 m1 t1 with
  | false =>
    rw [gmC_no hg] at HC
    have HQ := Lib.hid (ke_no hg)
    clear hg hR hX
    go_enter Tryd.func47, Tryd.ntmps47
    go_wp2_with fail
    generalize (((w.alloc (.cells #[.slice B0 t0.length d0] 29)).alloc (.cells #[.int .i64 m1, .slice B1 t1.length d1] 44)).alloc (.cells #[.int .i64 m1, .slice B1 t1.length d1] 44)) = W0 at *
    refine HC.out.mono ?_
    rintro e W1 ⟨rfl, he1⟩
    have HE1 := Lib.hid (e0.trans he1)
    clear b0 b1 b2 e0 he1
    go_wp2_with fail
    go_ret2
    exact ⟨none, 0, by rw [HQ.out.1, HQ.out.2]; rfl, HE1.out, by rw [HQ.out.1]; exact OwnL.nil _ _ _ (Nat.le_refl _)⟩
  | true =>
    rw [gmC_yes hg] at HC
    have HQ := Lib.hid (ke_yes hg)
    obtain ⟨M, rfl, hF⟩ := gmB_f hg
    have hl8 : t1.length ≤ 8 := by rw [hF.len]; exact hF.g.n8
    have HX := Lib.hid hX
    clear hg hR hX hF hs hu
    go_enter Tryd.func47, Tryd.ntmps47
    go_wp2_with fail
    generalize (((w.alloc (.cells #[.slice B0 t0.length d0] 29)).alloc (.cells #[.int .i64 (M : Int), .slice B1 t1.length d1] 44)).alloc (.cells #[.int .i64 (M : Int), .slice B1 t1.length d1] 44)) = W0 at *
    refine HC.out.mono ?_
    rintro e W1 ⟨rfl, he1⟩
    have HE1 := Lib.hid ((e0.trans he1).alloc (.cells #[] 2))
    have HB1 := Lib.hid ((b1.ex he1).alloc (.cells #[] 2))
    have HG1 := Lib.hid (GrowI.empty (lo := w.heap.size) W1 (e0.trans he1).size)
    clear b0 b1 b2 e0 he1
    go_wp2_with fail
    generalize W1.alloc (.cells #[] 2) = W2 at *
    go_loopw [7, 8] (fun v i wr => ∃ k : Nat, k ≤ t1.length ∧ i = .int .i64 (k : Int) ∧ Hid (Ex w wr) ∧ Hid (Has wr (w.heap.size + 1) 44 #[.int .i64 (M : Int), .slice B1 t1.length d1]) ∧ Hid (GrowI wr w.heap.size v (kerI t1 k).length (kerI t1 k))) (fun _ i _ => t1.length - (intOf i).toNat)
    case atStart => exact ⟨0, Nat.zero_le _, rfl, HE1, HB1, HG1⟩
    case round =>
      obtain ⟨k, hk, rfl, HE, HB, HG⟩ := hrel
      have c1 := HB.out.cell 1
      have hkl := kerI_len t1 k
      by_cases hlt : k < t1.length
      · obtain ⟨bx, ox, rfl, hbx, hcx⟩ := HX.out.ints.at_ hlt
        have hxc : wr.cell? ⟨bx, ox + k, none⟩ = some (.int .i64 (nth t1 k)) := (HE.out.below.cell (p := ⟨bx, ox + k, none⟩) hbx).trans hcx
        have hz := HE.out.size
        cases hq : (nth t1 k == 1) with
        | true =>
          have HKI := Lib.hid (kerI_yes hq)
          clear hcx
          generalize nth t1 k = z at *
          obtain ⟨xs, hxs⟩ : ∃ xs, kerI t1 k = xs := ⟨_, rfl⟩
          rw [hxs] at HG HKI hkl
          clear hxs
          go_wp2_with (at_builtin; refine wpList_append_own _ rfl _ _ 26 rfl w.heap.size 2 i0 (.int .i64 0) 1 8 Tryd.underlying26 hi hi0 hi1 hi2 rfl (by decide) _ _ _ rfl (HG.out.1.alloc _) ⟨wr.heap.size, 0, none⟩ 1 1 [.int .i64 (k : Int)] rfl rfl (cell_one_new _ _ _) (by simp [Value.oneCell']) (by unfold maxLen; omega) (by omega) (by simp; omega) ?_; intro v' w3 hown3 hgrow3 _; have G3 := HG.out.ex (Ex.new wr (.cells #[.int .i64 (k : Int)] 2)); have HE3 := Lib.hid (Ex.grew (HE.out.alloc _) G3 (Nat.le_refl _) hgrow3); have HB3 := Lib.hid (Has.grew (HB.out.alloc _) (by decide) G3 hgrow3); have HG3 := Lib.hid (G3.snoc hown3); clear hown3 hgrow3 G3)
          go_roundw
          case rel => exact ⟨k + 1, by omega, by go_num, HE3, HB3, by rw [HKI.out, List.length_append]; exact HG3⟩
          case measure => simp [intOf]; omega
        | false =>
          have HKI := Lib.hid (kerI_no hq)
          clear hcx
          generalize nth t1 k = z at *
          go_wp2_with fail
          go_roundw
          case rel => exact ⟨k + 1, by omega, by go_num, HE, HB, by rw [HKI.out]; exact HG⟩
          case measure => simp [intOf]; omega
      · obtain rfl : k = t1.length := by omega
        obtain ⟨A', n', rfl, hO⟩ := HG.out.own
        have HO := Lib.hid hO
        clear hO
        go_wp2_with fail
        go_ret2
        exact ⟨A', n', by rw [HQ.out.1, HQ.out.2]; rfl, HE.out, by rw [HQ.out.1]; exact HO.out⟩

/-- The set, as far as it has come. -/
def kset (us : List Int) {n : Nat} (pre : List (Fin n)) : Nat := pre.foldl (fun s x => if nth us x.val == 1 then s ||| 2 ^ x.val else s) 0
theorem kset_snoc (us : List Int) {n : Nat} (pre : List (Fin n)) (x : Fin n) : kset us (pre ++ [x]) = if nth us x.val == 1 then kset us pre ||| 2 ^ x.val else kset us pre := by simp [kset, List.foldl_append]
theorem kset_fold (us : List Int) {n : Nat} (hn : n ≤ 8) (pre : List (Fin n)) : ∀ s, s < 256 → pre.foldl (fun s x => if nth us x.val == 1 then s ||| 2 ^ x.val else s) s < 256 ∧
    ∀ a, (pre.foldl (fun s x => if nth us x.val == 1 then s ||| 2 ^ x.val else s) s).testBit a = (s.testBit a || pre.any fun x => decide (x.val = a) && (nth us a == 1)) := by
  induction pre with
  | nil => exact fun s hs => ⟨hs, fun a => by simp⟩
  | cons x pre ih =>
    intro s hs
    have hx : x.val < 8 := by omega
    by_cases hq : (nth us x.val == 1) = true
    · obtain ⟨h1, h2⟩ := ih (s ||| 2 ^ x.val) (with_lt s hs x.val hx)
      simp only [List.foldl_cons, hq, if_true]
      refine ⟨h1, fun a => ?_⟩
      rw [h2 a, with_bit]
      by_cases he : x.val = a
      · subst he
        simp [hq]
      · simp [he]
    · obtain ⟨h1, h2⟩ := ih s hs
      simp only [List.foldl_cons, hq]
      refine ⟨h1, fun a => ?_⟩
      rw [if_neg (by simp), h2 a]
      by_cases he : x.val = a
      · subst he
        simp [hq]
      · simp [he]
theorem kset_lt (us : List Int) {n : Nat} (hn : n ≤ 8) (pre : List (Fin n)) : kset us pre < 256 := (kset_fold us hn pre 0 (by omega)).1
theorem kset_all (us : List Int) {n : Nat} (hn : n ≤ 8) : elI (kset us (List.finRange n)) = kerI us n := by
  refine elI_of hn fun a ha => ?_
  rw [kset, (kset_fold us hn (List.finRange n) 0 (by omega)).2 a]
  by_cases hq : (nth us a == 1) = true
  · by_cases hl : a < n
    · have : ((List.finRange n).any fun x => decide (x.val = a) && (nth us a == 1)) = true := List.any_eq_true.2 ⟨⟨a, hl⟩, List.mem_finRange _, by simp [hq]⟩
      rw [this]
      simp [hl, hq]
    · have : ((List.finRange n).any fun x => decide (x.val = a) && (nth us a == 1)) = false := by
        rw [Bool.eq_false_iff]
        intro h
        obtain ⟨x, _, hx⟩ := List.any_eq_true.1 h
        simp at hx
        have := x.isLt
        omega
      rw [this]
      simp [hl]
  · simp [hq]

set_option maxRecDepth 100000 in
set_option maxHeartbeats 4000000 in
theorem implKernelOf_any (t0 : List (List Int)) (m1 : Int) (t1 : List Int) (B0 : Option Addr) (d0 : Nat) (B1 : Option Addr) (d1 : Nat) (w : World) (hR : RwsW w B0 t0) (hX : IntsW w B1 t1) (hs : SmallT t0) (hu : t1.length ≤ 1048576) (hT : TabL w) :
    Calls Tryd.prog 48 #[.agg #[.slice B0 t0.length d0], .agg #[.int .i64 m1, .slice B1 t1.length d1]] w fun e W' => ∃ (C0 : Option Addr) (e0 : Nat), e = .returned (.tuple #[.slice C0 (yKernelOf0 t0 m1 t1).length e0, .int .i64 (qKernelOf1 t0 m1 t1)]) ∧ Ex w W' ∧ OwnL W' w.heap.size W'.heap.size C0 (yKernelOf0 t0 m1 t1) := by
  have e0 : Ex w ((w.alloc (.cells #[.slice B0 t0.length d0] 29)).alloc (.cells #[.int .i64 m1, .slice B1 t1.length d1] 44)) := ((Ex.refl w).alloc _).alloc _
  have b0 : Has ((w.alloc (.cells #[.slice B0 t0.length d0] 29)).alloc (.cells #[.int .i64 m1, .slice B1 t1.length d1] 44)) (w.heap.size) 29 #[.slice B0 t0.length d0] := ((Has.newAt (w := w) (e := 29) (cs := #[.slice B0 t0.length d0]) (k := w.heap.size) (by simp)).alloc _)
  have b1 : Has ((w.alloc (.cells #[.slice B0 t0.length d0] 29)).alloc (.cells #[.int .i64 m1, .slice B1 t1.length d1] 44)) (w.heap.size + 1) 44 #[.int .i64 m1, .slice B1 t1.length d1] := (Has.newAt (w := (w.alloc (.cells #[.slice B0 t0.length d0] 29))) (e := 44) (cs := #[.int .i64 m1, .slice B1 t1.length d1]) (k := w.heap.size + 1) (by simp))
  have HC := Lib.hid (isModule_ex B0 B1 t0 m1 t1 d0 d1 _ (hR.ex e0) (hX.ex e0) hs hu)
  cases hg : gmB t0 m1 t1 with
  | false =>
    rw [hg] at HC
    have HQ := Lib.hid (ke_no hg)
    clear hg hR hX hT
    refine (callsIn_wide (n := 8)).1 ?_
    refine callsIn_of_wp_marks Tryd.func48 rfl trivial ?_ rfl
    simp only [Tryd.ntmps48, List.size_toArray, List.length_cons, List.length_nil, Nat.reduceAdd, Nat.reduceSub, Array.replicate_succ, Array.replicate_zero, List.push_toArray, List.append_toArray, List.nil_append, List.cons_append]
    gi_wp2_with fail
    generalize ((w.alloc (.cells #[.slice B0 t0.length d0] 29)).alloc (.cells #[.int .i64 m1, .slice B1 t1.length d1] 44)) = W0 at *
    refine ⟨trivial, (callsIn_wide.2 HC.out).mono ?_⟩
    rintro e W1 ⟨rfl, he1⟩
    have HE1 := Lib.hid (e0.trans he1)
    clear b0 b1 e0 he1
    gi_wp2
    exact ⟨_, results_tmp2 rfl _ _ _, none, 0, by rw [HQ.out.1, HQ.out.2]; rfl, HE1.out, by rw [HQ.out.1]; exact OwnL.nil _ _ _ (Nat.le_refl _)⟩
  | true =>
    rw [hg] at HC
    have HQ := Lib.hid (ke_yes hg)
    obtain ⟨M, rfl, hF⟩ := gmB_f hg
    have hn8 := hF.g.n8
    have HLEN := Lib.hid hF.len
    have HX := Lib.hid hX
    have HT := Lib.hid hT
    have HTL := Lib.hid hT.lt
    clear hg hR hX hF hs hu hT
    refine (callsIn_wide (n := 8)).1 ?_
    refine callsIn_of_wp_marks Tryd.func48 rfl trivial ?_ rfl
    simp only [Tryd.ntmps48, List.size_toArray, List.length_cons, List.length_nil, Nat.reduceAdd, Nat.reduceSub, Array.replicate_succ, Array.replicate_zero, List.push_toArray, List.append_toArray, List.nil_append, List.cons_append]
    gi_wp2_with fail
    generalize ((w.alloc (.cells #[.slice B0 t0.length d0] 29)).alloc (.cells #[.int .i64 (M : Int), .slice B1 t1.length d1] 44)) = W0 at *
    refine ⟨trivial, (callsIn_wide.2 HC.out).mono ?_⟩
    rintro e W1 ⟨rfl, he1⟩
    have hz1 := (b1.ex he1).lt
    have HE1 := Lib.hid (e0.trans he1)
    have HB0 := Lib.hid (b0.ex he1)
    have HB1 := Lib.hid (b1.ex he1)
    clear b0 b1 e0 he1
    have e3 := Ex.new W1 (.cells #[.int .u64 0] 110)
    have c0 := (HB0.out.ex e3).cell 0
    have HS := Lib.hid (Has.new W1 110 #[.int .u64 0])
    gi_wp2_with (refine ⟨trivial, ?_⟩; gi_at_call 101; refine (callsIn_wide.2 (elementsOf_any _ t0.length d0 _)).mono ?_; rintro e w' ⟨rfl, rfl⟩)
    obtain ⟨D, hD⟩ : ∃ D, W1.heap.size = D := ⟨_, rfl⟩
    have e4 := HE1.out.trans (e3.alloc (.cells #[.slice B0 t0.length d0] 29))
    have bS := HS.out.alloc (.cells #[.slice B0 t0.length d0] 29)
    have bG := Has.newAt (w := W1.alloc (.cells #[.int .u64 0] 110)) (e := 29) (cs := #[.slice B0 t0.length d0]) (k := W1.heap.size + 1) (by simp)
    have b1 := (HB1.out.ex e3).alloc (.cells #[.slice B0 t0.length d0] 29)
    have hz4 : ((W1.alloc (.cells #[.int .u64 0] 110)).alloc (.cells #[.slice B0 t0.length d0] 29)).heap.size = D + 1 + 1 := by simp [hD]
    rw [hD] at bS bG hz1 ⊢
    clear HB0 HB1 HS e3 c0 HE1
    generalize ((W1.alloc (.cells #[.int .u64 0] 110)).alloc (.cells #[.slice B0 t0.length d0] 29)) = W4 at *
    have HE4 := Lib.hid e4
    have HB1 := Lib.hid b1
    clear e4 b1 hD
    refine range_top (n := 8) (n₀ := w.heap.size + 1 + 1) (by omega) (gf := 147) (lb := #[.pointer (some ⟨D + 1, 0, none⟩)]) rfl (enters_of Tryd.func147 (by kernel_rfl) rfl)
      (elements_stops 7 (by omega) (D + 1) (w.heap.size + 1 + 1) t0.length d0 _ W4 (by omega) (bG.cell 0) (by omega)) (by omega) (fun _ => rfl)
      (fun pre W => Has W D 110 #[.int .u64 (kset t1 pre : Int)])
      (fun c' _ W => False)
      (Own.from (has_own _ _ _) _)
      (fun _ => ownFrom_pure _ _)
      (by simpa [kset] using bS) ?round ?done ?stop
    case round =>
      intro l x W K hK
      have HK := Lib.hid hK
      clear hK
      gi_wp2
      refine HK.out _ ?_
      clear HK
      rintro l pre W hr bS1 hKW _
      obtain ⟨k, hlt⟩ := x
      have hkt : k < t1.length := by rw [HLEN.out]; exact hlt
      have hEW : Ex w W := HE4.out.trans' hKW.1 (by omega)
      obtain ⟨bx, ox, rfl, hbx, hcx⟩ := HX.out.ints.at_ hkt
      have hxc : W.cell? ⟨bx, ox + k, none⟩ = some (.int .i64 (nth t1 k)) := (hEW.below.cell (p := ⟨bx, ox + k, none⟩) hbx).trans hcx
      have c1 := (HB1.out.below hKW.1 (by omega)).cell 1
      have cs := bS1.cell 0
      have fs := bS1.free 0
      have hkl := kset_lt t1 hn8 pre
      have HSN := Lib.hid (kset_snoc t1 pre ⟨k, hlt⟩)
      have HBS := Lib.hid bS1
      clear hKW bS1 hEW hcx
      cases hq : (nth t1 k == 1) with
      | true =>
        rw [show ((⟨k, hlt⟩ : Fin t0.length).val) = k from rfl, if_pos hq] at HSN
        generalize nth t1 k = z at *
        obtain ⟨s, hs⟩ : ∃ s, kset t1 pre = s := ⟨_, rfl⟩
        rw [hs] at cs hkl HSN HBS
        clear hs
        gi_wp2_with (refine ⟨trivial, ?_⟩; gi_at_call 102; refine (callsIn_wide.2 (with_any s k _ hkl (by omega))).mono ?_; rintro e w' ⟨rfl, rfl⟩)
        refine ⟨(Keeps.refl _ _).setCell (p := ⟨D, 0, none⟩) (by show _ ≤ D; omega) _, ?_⟩
        show Has _ _ _ _
        rw [HSN.out]
        exact HBS.out.put1
      | false =>
        rw [show ((⟨k, hlt⟩ : Fin t0.length).val) = k from rfl, if_neg (by rw [hq]; simp)] at HSN
        generalize nth t1 k = z at *
        gi_wp2
        refine ⟨Keeps.refl _ _, ?_⟩
        show Has _ _ _ _
        rw [HSN.out]
        exact HBS.out
    case done =>
      rintro D' xs W hD' rfl bS1 hKW hK
      have hs := kset_lt t1 hn8 (List.finRange t0.length)
      have HEL := Lib.hid (kset_all t1 hn8)
      obtain ⟨s, hse⟩ : ∃ s, kset t1 (List.finRange t0.length) = s := ⟨_, rfl⟩
      rw [hse] at hs HEL bS1
      have cs := bS1.cell 0
      have hEW : Ex w W := HE4.out.trans' hKW.1 (by omega)
      have HSL := Lib.hid (setList_any s W hs (HT.out.ex hEW))
      have HEW := Lib.hid hEW
      have HKD := Lib.hid hK
      have hzD := (Array.getElem?_eq_some_iff.1 hK).1
      clear hse bS1 hKW hEW hK
      gi_wp2_with (refine ⟨trivial, ?_⟩; gi_at_call 103; refine (callsIn_wide.2 HSL.out).mono ?_; rintro e W9 ⟨A', c', rfl, he9, ho9⟩; have HE9 := Lib.hid he9; have HO9 := Lib.hid ho9; clear he9 ho9)
      have hK9 : W9.heap[D']? = some (.deferred (some [])) := (HE9.out.below.block D' hzD).trans HKD.out
      refine ⟨by simp, .inl ⟨_, _, rfl, run_takeDeferred hK9, ?_⟩⟩
      have hg8 := grownBy_putObj' W9 D' (.deferred none)
      have hE9 := HEW.out.trans HE9.out
      refine ⟨_, results_tmp2 rfl _ _ _, A', c', by rw [HQ.out.1, HQ.out.2, HLEN.out, HEL.out]; rfl, Below.grown hE9 hg8 hE9.size (fun k hk => by cases hk; omega), ?_⟩
      rw [HQ.out.1, HLEN.out, ← HEL.out]
      have hsz : (W9.putObj D' (.deferred none)).heap.size = W9.heap.size := by simp [World.putObj]
      exact (HO9.out.keep (by rw [hsz]; exact Nat.le_refl _) (fun b hb hb' => hg8.block b hb' (fun e => by cases e; omega))).mono HEW.out.size (by rw [hsz]; exact Nat.le_refl _) (by rw [hsz]; exact Nat.le_refl _)
    case stop =>
      rintro D c' pre W hD hpre h
      exact h.elim

theorem implKernelOf_ex (t0 : List (List Int)) (m1 : Int) (t1 : List Int) : ∀ (B0 : Option Addr) (d0 : Nat) (B1 : Option Addr) (d1 : Nat) (W : World), RwsW W B0 t0 → IntsW W B1 t1 → SmallT t0 → t1.length ≤ 1048576 → TabL W →
    Calls Tryd.prog 48 #[.agg #[.slice B0 t0.length d0], .agg #[.int .i64 m1, .slice B1 t1.length d1]] W fun e W' => ∃ (C0 : Option Addr) (e0 : Nat), e = .returned (.tuple #[.slice C0 (yKernelOf0 t0 m1 t1).length e0, .int .i64 (qKernelOf1 t0 m1 t1)]) ∧ Ex W W' ∧ OwnL W' W.heap.size W'.heap.size C0 (yKernelOf0 t0 m1 t1) :=
  fun B0 d0 B1 d1 W hR hX hs hu hT => implKernelOf_any t0 m1 t1 B0 d0 B1 d1 W hR hX hs hu hT

end Go.Proofs.YtdehalkebneaoaaDoor
