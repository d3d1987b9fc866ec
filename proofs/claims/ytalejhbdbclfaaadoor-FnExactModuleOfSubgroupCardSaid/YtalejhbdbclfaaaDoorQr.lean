/- QuotientOf: both contracts. -/
import Derived.Test.YtalejhbdbclfaaaDoorQq
import Derived.Test.YtalejhbdbclfaaaDoorNk
namespace Go.Proofs.YtalejhbdbclfaaaDoor
open Go.RowKit Go.Shelf

attribute [local go_sem] Oper.semAt_some

/-- An ascending list is what a filter keeps of a beginning of the numbers. -/
theorem asc_filter : ∀ (n : Nat) (l : List Nat), l.Pairwise (· < ·) → (∀ x ∈ l, x < n) → l = (List.range n).filter fun a => decide (a ∈ l)
  | 0, l, _, h => by
    rcases l with _ | ⟨x, l⟩
    · rfl
    · exact absurd (h x (by simp)) (by omega)
  | n + 1, l, hp, h => by
    rcases List.eq_nil_or_concat l with rfl | ⟨L, b, rfl⟩
    · simp
    · rw [List.concat_eq_append] at hp h ⊢
      have hL := List.pairwise_append.1 hp
      have hlt : ∀ x ∈ L, x < b := fun x hx => hL.2.2 x hx b (by simp)
      have hb := h b (by simp)
      rw [List.range_succ, List.filter_append]
      by_cases hbn : b = n
      · subst hbn
        have ih := asc_filter b L hL.1 hlt
        have e1 : (List.range b).filter (fun a => decide (a ∈ L ++ [b])) = (List.range b).filter (fun a => decide (a ∈ L)) := by
          refine List.filter_congr fun a ha => ?_
          have : a ≠ b := by have := List.mem_range.1 ha; omega
          simp [this]
        rw [e1, ← ih]
        simp
      · have hall : ∀ x ∈ L ++ [b], x < n := fun x hx => by
          rcases List.mem_append.1 hx with hx | hx
          · have := hlt x hx; omega
          · have : x = b := by simpa using hx
            omega
        have ih := asc_filter n (L ++ [b]) hp hall
        have hn : n ∉ L ++ [b] := fun hm => by have := hall n hm; omega
        rw [← ih]
        simp only [List.mem_append, List.mem_singleton, not_or] at hn
        simp [hn]
theorem els_bits {N : Nat} {xs : List Int} (hN : N ≤ 8) (h : setB N xs = true) : elN (bitsK xs xs.length) = elsL xs := by
  obtain ⟨hr, ha⟩ := setB_true.1 h
  have hmono : ∀ j, j < xs.length → ∀ i, i < j → nth xs i < nth xs j := by
    intro j
    induction j with
    | zero => exact fun _ i hi => absurd hi (by omega)
    | succ j ih =>
      intro hj i hi
      have h1 := ha (j + 1) (by omega) hj
      rw [Nat.add_sub_cancel] at h1
      rcases Nat.lt_or_ge i j with h2 | h2
      · have := ih (by omega) i h2
        omega
      · obtain rfl : i = j := by omega
        exact h1
  have hp : (elsL xs).Pairwise (· < ·) := by
    refine List.pairwise_iff_getElem.2 fun i j hi hj hij => ?_
    have hj' : j < xs.length := by simpa [elsL] using hj
    have h1 := hmono j hj' i hij
    have h2 := hr i (by omega)
    have h3 := hr j hj'
    simp only [elsL, List.getElem_map]
    rw [show xs[i] = nth xs i by simp [nth, show i < xs.length by omega], show xs[j] = nth xs j by simp [nth, hj']]
    omega
  have hl : ∀ x ∈ elsL xs, x < 8 := fun x hx => by
    obtain ⟨y, hy, rfl⟩ := List.mem_map.1 hx
    obtain ⟨i, hi, rfl⟩ := List.getElem_of_mem hy
    have h := hr i hi
    rw [show nth xs i = xs[i] by simp [nth, hi]] at h
    omega
  rw [asc_filter 8 (elsL xs) hp hl]
  unfold elN
  refine List.filter_congr fun a _ => ?_
  rw [bitsK_bit]
  congr 1
  refine propext ⟨fun ⟨i, hi, e⟩ => ?_, fun hm => ?_⟩
  · refine List.mem_map.2 ⟨xs[i], List.getElem_mem hi, ?_⟩
    rw [← e, show nth xs i = xs[i] by simp [nth, hi]]
  · obtain ⟨y, hy, rfl⟩ := List.mem_map.1 hm
    obtain ⟨i, hi, rfl⟩ := List.getElem_of_mem hy
    exact ⟨i, hi, by rw [show nth xs i = xs[i] by simp [nth, hi]]⟩

set_option maxRecDepth 100000 in
set_option maxHeartbeats 2000000 in
theorem isNormalSubgroup_no (A : Option Addr) (t : List (List Int)) (c s : Nat) (w : World) (hR : RwsW w A t) (hg : IsGrp t) (hs : s < 2 ^ t.length) (hT : TabL w) (hsub : subB t s = false) :
    Calls Tryd.prog 195 #[.agg #[.slice A t.length c], .int .u64 (s : Int)] w fun e w' => e = .returned (.bool false) ∧ Ex w w' := by
  have e0 : Ex w (((w.alloc (.cells #[.slice A t.length c] 27)).alloc (.cells #[.int .u64 (s : Int)] 129)).alloc (.cells #[.bool false] 4)) := (((Ex.refl w).alloc _).alloc _).alloc _
  have b0 : Has (((w.alloc (.cells #[.slice A t.length c] 27)).alloc (.cells #[.int .u64 (s : Int)] 129)).alloc (.cells #[.bool false] 4)) (w.heap.size) 27 #[.slice A t.length c] := (((Has.newAt (w := w) (e := 27) (cs := #[.slice A t.length c]) (k := w.heap.size) (by simp)).alloc _).alloc _)
  have b1 : Has (((w.alloc (.cells #[.slice A t.length c] 27)).alloc (.cells #[.int .u64 (s : Int)] 129)).alloc (.cells #[.bool false] 4)) (w.heap.size + 1) 129 #[.int .u64 (s : Int)] := ((Has.newAt (w := (w.alloc (.cells #[.slice A t.length c] 27))) (e := 129) (cs := #[.int .u64 (s : Int)]) (k := w.heap.size + 1) (by simp)).alloc _)
  have b2 : Has (((w.alloc (.cells #[.slice A t.length c] 27)).alloc (.cells #[.int .u64 (s : Int)] 129)).alloc (.cells #[.bool false] 4)) (w.heap.size + 1 + 1) 4 #[.bool false] := (Has.newAt (w := ((w.alloc (.cells #[.slice A t.length c] 27)).alloc (.cells #[.int .u64 (s : Int)] 129))) (e := 4) (cs := #[.bool false]) (k := w.heap.size + 1 + 1) (by simp))
  have HSG := Lib.hid (fun W (he : Ex w W) => hsub ▸ isSubgroup_any A t c s W (hR.ex he) hg hs (hT.ex he))
  obtain ⟨W0, hW0⟩ : ∃ W0, (((w.alloc (.cells #[.slice A t.length c] 27)).alloc (.cells #[.int .u64 (s : Int)] 129)).alloc (.cells #[.bool false] 4)) = W0 := ⟨_, rfl⟩
  rw [hW0] at e0 b0 b1 b2
  have HW0 := Lib.hid hW0
  have c0 := b0.cell 0
  have c1 := b1.cell 0
  have HE0 := Lib.hid e0
  have HB2 := Lib.hid b2
  clear hR hg hs hT hsub hW0 b0 b1 b2 e0
  refine (callsIn_wide (n := 20)).1 ?_
  refine callsIn_of_wp_marks Tryd.func195 rfl trivial ?_ rfl
  simp only [Tryd.ntmps195, List.size_toArray, List.length_cons, List.length_nil, Nat.reduceAdd, Nat.reduceSub, Array.replicate_succ, Array.replicate_zero, List.push_toArray, List.append_toArray, List.nil_append, List.cons_append]
  refine wpIn_wide.2 ?_
  go_wp2_with fail
  rw [HW0.out]
  refine (HSG.out W0 HE0.out).mono ?_
  rintro e W1 ⟨rfl, he1⟩
  have HBR := Lib.hid (HB2.out.ex he1)
  have HE1 := Lib.hid (HE0.out.trans he1)
  have cr := HBR.out.cell 0
  have fr := HBR.out.free 0
  clear he1 c0 c1
  go_wp2_with fail
  have H4 := HBR.out.put1 (v := .bool false)
  have c4 := H4.cell 0
  exact ⟨.bool false, by simp [results, Tryd.results195, go_sem, c4], rfl, HE1.out.setCell (by show w.heap.size ≤ w.heap.size + 1 + 1; omega) _⟩

set_option maxRecDepth 100000 in
set_option maxHeartbeats 4000000 in
theorem quc_ex (P G F b o D gf c cf i j Z : Nat) (bb oo C : Nat → Nat) (t : List (List Int)) (S : Cos) (w : World) (hP : Has w P 25 #[.slice (some ⟨D, 0, none⟩) t.length t.length]) (hG : Has w G 27 #[.slice (some ⟨b, o, none⟩) t.length c]) (hF : Has w F 25 #[.slice (some ⟨gf, 0, none⟩) S.fst.length cf])
    (hZ : Z ≤ w.heap.size) (hQ : SqT w Z b o bb oo C t) (hg : IsGrp t) (hD : Has w D 2 (tab t.length fun x => .int .i64 (S.num x : Int))) (hf : ∀ i, i < S.fst.length → w.cell? ⟨gf, i, none⟩ = some (.int .i64 (fstA S i : Int)) ∧ fstA S i < t.length) (hi : i < S.fst.length) (hj : j < S.fst.length) :
    Calls Tryd.prog 196 #[.int .i64 (i : Int), .int .i64 (j : Int), .pointer (some ⟨P, 0, none⟩), .pointer (some ⟨G, 0, none⟩), .pointer (some ⟨F, 0, none⟩)] w fun e w' => e = .returned (.int .i64 (quoV t S i j : Int)) ∧ Ex w w' := by
  obtain ⟨hfi, hxi⟩ := hf i hi
  obtain ⟨hfj, hxj⟩ := hf j hj
  have hmN := hg.mul_lt hxi hxj
  have HV : Hid (quoV t S i j = S.num (mul t (fstA S i) (fstA S j))) := Lib.hid rfl
  have HSK0 := Lib.hid (fun (W : World) (he : Ex w W) => (⟨(hP.ex he).cell 0, (hG.ex he).cell 0, (hF.ex he).cell 0, (he.below.cell (p := ⟨gf, i, none⟩) (World.block_lt_of_cell? _ _ hfi)).trans hfi, (he.below.cell (p := ⟨gf, j, none⟩) (World.block_lt_of_cell? _ _ hfj)).trans hfj, (hQ.below he.below hZ).row_ hxi, by rw [(hQ.below he.below hZ).ent_ hxi hxj, hg.ent hxi hxj], by rw [(hD.ex he).cell, tab_get hmN]⟩ :
    W.cell? ⟨P, 0, none⟩ = some (.slice (some ⟨D, 0, none⟩) t.length t.length) ∧ W.cell? ⟨G, 0, none⟩ = some (.slice (some ⟨b, o, none⟩) t.length c) ∧ W.cell? ⟨F, 0, none⟩ = some (.slice (some ⟨gf, 0, none⟩) S.fst.length cf) ∧ W.cell? ⟨gf, i, none⟩ = some (.int .i64 (fstA S i : Int)) ∧ W.cell? ⟨gf, j, none⟩ = some (.int .i64 (fstA S j : Int)) ∧ W.cell? ⟨b, o + fstA S i, none⟩ = some (.slice (some ⟨bb (fstA S i), oo (fstA S i), none⟩) t.length (C (fstA S i))) ∧ W.cell? ⟨bb (fstA S i), oo (fstA S i) + fstA S j, none⟩ = some (.int .i64 (mul t (fstA S i) (fstA S j) : Int)) ∧ W.cell? ⟨D, mul t (fstA S i) (fstA S j), none⟩ = some (.int .i64 (S.num (mul t (fstA S i) (fstA S j)) : Int))))
  obtain ⟨x, hx⟩ : ∃ x, fstA S i = x := ⟨_, rfl⟩
  obtain ⟨y, hy⟩ : ∃ y, fstA S j = y := ⟨_, rfl⟩
  rw [hx, hy] at HV hmN
  rw [hx] at hxi
  rw [hy] at hxj
  simp only [hx, hy] at HSK0
  obtain ⟨m, hm⟩ : ∃ m, mul t x y = m := ⟨_, rfl⟩
  rw [hm] at HV hmN
  simp only [hm] at HSK0
  obtain ⟨q, hq⟩ : ∃ q, S.num m = q := ⟨_, rfl⟩
  rw [hq] at HV
  simp only [hq] at HSK0
  obtain ⟨K, hK⟩ : ∃ K, S.fst.length = K := ⟨_, rfl⟩
  rw [hK] at hi hj
  simp only [hK] at HSK0
  rw [HV.out]
  clear hP hG hF hQ hg hD hf hfi hfj hx hy hm hq hK HV
  go_enter Tryd.func196, Tryd.ntmps196
  go_wp2_with fail
  refine wp_region_quiet (C := fun w' => Ex w w') (by kernel_rfl) (by kernel_rfl) (Ex.refl w).drew ?_
  refine BigFrame.wpQuiet_want (by rfl) fun K hK => ⟨?_, fun w' hC => ?_, hK _ ?_⟩
  rotate_left
  · (obtain ⟨q0, q1, q2, q3, q4, q5, q6, q7⟩ := HSK0.out _ hC; go_simp; first | done | with_reducible rfl | exact ⟨rfl, hC⟩)
  clear hK K
  simp only [Act.put, List.setIfInBounds_toArray, List.set_cons_zero, List.set_cons_succ]
  refine BigFrame.wpQuiet_want (by rfl) fun K hK => ⟨?_, fun w' hC => ?_, hK _ ?_⟩
  rotate_left
  · (obtain ⟨q0, q1, q2, q3, q4, q5, q6, q7⟩ := HSK0.out _ hC; go_simp; first | done | with_reducible rfl | exact ⟨rfl, hC⟩)
  clear hK K
  simp only [Act.put, List.setIfInBounds_toArray, List.set_cons_zero, List.set_cons_succ]
  refine BigFrame.wpQuiet_want (by rfl) fun K hK => ⟨?_, fun w' hC => ?_, hK _ ?_⟩
  rotate_left
  · (obtain ⟨q0, q1, q2, q3, q4, q5, q6, q7⟩ := HSK0.out _ hC; go_simp; first | done | with_reducible rfl | exact ⟨rfl, hC⟩)
  clear hK K
  simp only [Act.put, List.setIfInBounds_toArray, List.set_cons_zero, List.set_cons_succ]
  refine BigFrame.wpQuiet_want (by rfl) fun K hK => ⟨?_, fun w' hC => ?_, hK _ ?_⟩
  rotate_left
  · (obtain ⟨q0, q1, q2, q3, q4, q5, q6, q7⟩ := HSK0.out _ hC; go_simp; first | done | with_reducible rfl | exact ⟨rfl, hC⟩)
  clear hK K
  simp only [Act.put, List.setIfInBounds_toArray, List.set_cons_zero, List.set_cons_succ]
  refine BigFrame.wpQuiet_want (by rfl) fun K hK => ⟨?_, fun w' hC => ?_, hK _ ?_⟩
  rotate_left
  · (obtain ⟨q0, q1, q2, q3, q4, q5, q6, q7⟩ := HSK0.out _ hC; go_simp; first | done | with_reducible rfl | exact ⟨rfl, hC⟩)
  clear hK K
  simp only [Act.put, List.setIfInBounds_toArray, List.set_cons_zero, List.set_cons_succ]
  refine BigFrame.wpQuiet_want (by rfl) fun K hK => ⟨?_, fun w' hC => ?_, hK _ ?_⟩
  rotate_left
  · (obtain ⟨q0, q1, q2, q3, q4, q5, q6, q7⟩ := HSK0.out _ hC; go_simp; first | done | with_reducible rfl | exact ⟨rfl, hC⟩)
  clear hK K
  simp only [Act.put, List.setIfInBounds_toArray, List.set_cons_zero, List.set_cons_succ]
  refine BigFrame.wpQuiet_want (by rfl) fun K hK => ⟨?_, fun w' hC => ?_, hK _ ?_⟩
  rotate_left
  · (obtain ⟨q0, q1, q2, q3, q4, q5, q6, q7⟩ := HSK0.out _ hC; go_simp; first | done | with_reducible rfl | exact ⟨rfl, hC⟩)
  clear hK K
  simp only [Act.put, List.setIfInBounds_toArray, List.set_cons_zero, List.set_cons_succ]
  refine BigFrame.wpQuiet_want (by rfl) fun K hK => ⟨?_, fun w' hC => ?_, hK _ ?_⟩
  rotate_left
  · (obtain ⟨q0, q1, q2, q3, q4, q5, q6, q7⟩ := HSK0.out _ hC; go_simp; first | done | with_reducible rfl | exact ⟨rfl, hC⟩)
  clear hK K
  simp only [Act.put, List.setIfInBounds_toArray, List.set_cons_zero, List.set_cons_succ]
  refine BigFrame.wpQuiet_want (by rfl) fun K hK => ⟨?_, fun w' hC => ?_, hK _ ?_⟩
  rotate_left
  · (obtain ⟨q0, q1, q2, q3, q4, q5, q6, q7⟩ := HSK0.out _ hC; go_simp; first | done | with_reducible rfl | exact ⟨rfl, hC⟩)
  clear hK K
  simp only [Act.put, List.setIfInBounds_toArray, List.set_cons_zero, List.set_cons_succ]
  refine BigFrame.wpQuiet_want (by rfl) fun K hK => ⟨?_, fun w' hC => ?_, hK _ ?_⟩
  rotate_left
  · (obtain ⟨q0, q1, q2, q3, q4, q5, q6, q7⟩ := HSK0.out _ hC; go_simp; first | done | with_reducible rfl | exact ⟨rfl, hC⟩)
  clear hK K
  simp only [Act.put, List.setIfInBounds_toArray, List.set_cons_zero, List.set_cons_succ]
  refine BigFrame.wpQuiet_want (by rfl) fun K hK => ⟨?_, fun w' hC => ?_, hK _ ?_⟩
  rotate_left
  · (obtain ⟨q0, q1, q2, q3, q4, q5, q6, q7⟩ := HSK0.out _ hC; go_simp; first | done | with_reducible rfl | exact ⟨rfl, hC⟩)
  clear hK K
  simp only [Act.put, List.setIfInBounds_toArray, List.set_cons_zero, List.set_cons_succ]
  refine BigFrame.wpQuiet_want (by rfl) fun K hK => ⟨?_, fun w' hC => ?_, hK _ ?_⟩
  rotate_left
  · (obtain ⟨q0, q1, q2, q3, q4, q5, q6, q7⟩ := HSK0.out _ hC; go_simp; first | done | with_reducible rfl | exact ⟨rfl, hC⟩)
  clear hK K
  simp only [Act.put, List.setIfInBounds_toArray, List.set_cons_zero, List.set_cons_succ]
  refine BigFrame.wpQuiet_want (by rfl) fun K hK => ⟨?_, fun w' hC => ?_, hK _ ?_⟩
  rotate_left
  · (obtain ⟨q0, q1, q2, q3, q4, q5, q6, q7⟩ := HSK0.out _ hC; go_simp; first | done | with_reducible rfl | exact ⟨rfl, hC⟩)
  clear hK K
  simp only [Act.put, List.setIfInBounds_toArray, List.set_cons_zero, List.set_cons_succ]
  refine BigFrame.wpQuiet_want (by rfl) fun K hK => ⟨?_, fun w' hC => ?_, hK _ ?_⟩
  rotate_left
  · (obtain ⟨q0, q1, q2, q3, q4, q5, q6, q7⟩ := HSK0.out _ hC; go_simp; first | done | with_reducible rfl | exact ⟨rfl, hC⟩)
  clear hK K
  simp only [Act.put, List.setIfInBounds_toArray, List.set_cons_zero, List.set_cons_succ]
  refine BigFrame.wpQuiet_want (by rfl) fun K hK => ⟨?_, fun w' hC => ?_, hK _ ?_⟩
  rotate_left
  · (obtain ⟨q0, q1, q2, q3, q4, q5, q6, q7⟩ := HSK0.out _ hC; go_simp; first | done | with_reducible rfl | exact ⟨rfl, hC⟩)
  clear hK K
  simp only [Act.put, List.setIfInBounds_toArray, List.set_cons_zero, List.set_cons_succ]
  refine BigFrame.wpQuiet_want (by rfl) fun K hK => ⟨?_, fun w' hC => ?_, hK _ ?_⟩
  rotate_left
  · (obtain ⟨q0, q1, q2, q3, q4, q5, q6, q7⟩ := HSK0.out _ hC; go_simp; first | done | with_reducible rfl | exact ⟨rfl, hC⟩)
  clear hK K
  simp only [Act.put, List.setIfInBounds_toArray, List.set_cons_zero, List.set_cons_succ]
  refine BigFrame.wpQuiet_want (by rfl) fun K hK => ⟨?_, fun w' hC => ?_, hK _ ?_⟩
  rotate_left
  · (obtain ⟨q0, q1, q2, q3, q4, q5, q6, q7⟩ := HSK0.out _ hC; go_simp; first | done | with_reducible rfl | exact ⟨rfl, hC⟩)
  clear hK K
  simp only [Act.put, List.setIfInBounds_toArray, List.set_cons_zero, List.set_cons_succ]
  refine BigFrame.wpQuiet_want (by rfl) fun K hK => ⟨?_, fun w' hC => ?_, hK _ ?_⟩
  rotate_left
  · (obtain ⟨q0, q1, q2, q3, q4, q5, q6, q7⟩ := HSK0.out _ hC; go_simp; first | done | with_reducible rfl | exact ⟨rfl, hC⟩)
  clear hK K
  simp only [Act.put, List.setIfInBounds_toArray, List.set_cons_zero, List.set_cons_succ]
  refine wpQuiet_nil ?_
  intro w2 hC2
  have HC2 := Lib.hid hC2
  clear hC2
  go_wp2_with fail
  go_ret
  exact ⟨rfl, HC2.out⟩

/-- The code of a quotient. -/
noncomputable def quC (t : List (List Int)) (xs : List Int) : Int := if setC t xs = 0 then (if subB t (bitsK xs xs.length) = true ∧ norB t (bitsK xs xs.length) = true then 0 else 5) else setC t xs
def quS (t : List (List Int)) (xs : List Int) : Cos := cosK t (elsL xs) t.length
noncomputable def yQuotientOf0 (t : List (List Int)) (xs : List Int) : List (List Int) := if quC t xs = 0 then mkT (quS t xs).fst.length (quS t xs).fst.length (fun i j => (quoV t (quS t xs) i j : Int)) else []
noncomputable def yQuotientOf1 (t : List (List Int)) (xs : List Int) : List Int := if quC t xs = 0 then (List.range t.length).map fun x => ((quS t xs).num x : Int) else []
noncomputable def qQuotientOf2 (t : List (List Int)) (xs : List Int) : Int := quC t xs
theorem quC_zero {t : List (List Int)} {xs : List Int} (h : quC t xs = 0) : setC t xs = 0 ∧ subB t (bitsK xs xs.length) = true ∧ norB t (bitsK xs xs.length) = true := by
  unfold quC at h
  split at h
  · rename_i h1
    split at h
    · rename_i h2
      exact ⟨h1, h2⟩
    · omega
  · rename_i h1
    exact absurd h h1
theorem setC_f {t : List (List Int)} {xs : List Int} (hc : setC t xs = 0) : grpB t = true ∧ setB t.length xs = true := by
  rcases setC_cases t xs with ⟨_, h⟩ | ⟨_, _, h⟩ | h
  · rw [h] at hc; cases hc
  · rw [h] at hc; cases hc
  · exact ⟨h.1, h.2.1⟩
theorem quS_b {t : List (List Int)} {xs : List Int} (hg : IsGrp t) (hb : setB t.length xs = true) : CosB t t.length (quS t xs) := by
  refine cosK_b hg (fun b hb' => ?_) _ (Nat.le_refl _)
  obtain ⟨x, hx, rfl⟩ := List.mem_map.1 hb'
  obtain ⟨i, hi, rfl⟩ := List.getElem_of_mem hx
  have h := (setB_true.1 hb).1 i hi
  rw [show nth xs i = xs[i] by simp [nth, hi]] at h
  omega
theorem quotientOf_small0 (t : List (List Int)) (xs : List Int) : SmallT (yQuotientOf0 t xs) := by
  unfold yQuotientOf0
  split
  · rename_i h
    obtain ⟨h1, h2⟩ := setC_f (quC_zero h).1
    have hg := grpB_iff.1 h1
    have := (quS_b hg h2).len
    have := hg.n8
    exact mkT_small (by omega) (by omega)
  · exact ⟨by simp, fun i hi => by simp at hi⟩
theorem quotientOf_small1 (t : List (List Int)) (xs : List Int) : (yQuotientOf1 t xs).length ≤ 1048576 := by
  unfold yQuotientOf1
  split
  · rename_i h
    have := (grpB_iff.1 (setC_f (quC_zero h).1).1).n8
    simp
    omega
  · simp
theorem qu_no {t : List (List Int)} {xs : List Int} {k : Int} (h : quC t xs = k) (hk : k ≠ 0) : yQuotientOf0 t xs = [] ∧ yQuotientOf1 t xs = [] ∧ qQuotientOf2 t xs = k := by
  refine ⟨?_, ?_, h⟩
  · unfold yQuotientOf0
    rw [h, if_neg hk]
  · unfold yQuotientOf1
    rw [h, if_neg hk]
theorem qu_yes {t : List (List Int)} {xs : List Int} (h : quC t xs = 0) : yQuotientOf0 t xs = mkT (quS t xs).fst.length (quS t xs).fst.length (fun i j => (quoV t (quS t xs) i j : Int)) ∧ yQuotientOf1 t xs = (List.range t.length).map (fun x => ((quS t xs).num x : Int)) ∧ qQuotientOf2 t xs = 0 := by
  refine ⟨?_, ?_, h⟩
  · unfold yQuotientOf0
    rw [if_pos h]
  · unfold yQuotientOf1
    rw [if_pos h]
theorem has_num {w : World} {D N lo : Nat} {f : Nat → Nat} (h : Has w D 2 (tab N fun x => .int .i64 (f x : Int))) (hl : lo ≤ D) : OwnL w lo w.heap.size (some ⟨D, 0, none⟩) ((List.range N).map fun x => (f x : Int)) := by
  refine OwnL.of_has (n := N) (e := 2) ?_ (by simp) hl
  rw [tab_congr (g := fun j => .int .i64 (f j : Int)) (fun j hj => by simp [nth, hj])]
  exact h
theorem OwnL.of_hasM {w : World} {lo hi g n : Nat} {e : TypeId} {xs : List Int} (h : Has w g e (tab n fun j => .int .i64 (nth xs j))) (hn : n = xs.length) (hl : lo ≤ g) (hh : g < hi) (hs : hi ≤ w.heap.size) : OwnL w lo hi (some ⟨g, 0, none⟩) xs := by
  subst hn
  exact ⟨hs, fun _ => ⟨g, 0, rfl, hl, hh, fun j hj => ⟨by rw [Nat.zero_add, h.cell, tab_get hj], h.free _⟩⟩⟩
theorem has_numM {w : World} {D N lo hi : Nat} {f : Nat → Nat} (h : Has w D 2 (tab N fun x => .int .i64 (f x : Int))) (hl : lo ≤ D) (hh : D < hi) (hs : hi ≤ w.heap.size) : OwnL w lo hi (some ⟨D, 0, none⟩) ((List.range N).map fun x => (f x : Int)) := by
  refine OwnL.of_hasM (n := N) (e := 2) ?_ (by simp) hl hh hs
  rw [tab_congr (g := fun j => .int .i64 (f j : Int)) (fun j hj => by simp [nth, hj])]
  exact h

end Go.Proofs.YtalejhbdbclfaaaDoor
