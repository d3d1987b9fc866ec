/- OrdersOf, of the program. -/
import Derived.Test.YtnjcjdfleilgfaaOrs
import Derived.Test.YtnjcjdfleilgfaaImC
import Derived.Test.YtnjcjdfleilgfaaIsG
namespace Go.Proofs.Ytnjcjdfleilgfaa
open Go.RowKit Go.Shelf

attribute [local go_sem] Oper.semAt_some

theorem has_own {β : Type} (B : Nat) (e : TypeId) (f : β → Array Value) : Own (fun s W => Has W B e (f s)) := fun s X Y row hs hg hrow =>
  (hg.block B hs.lt (fun e' => by obtain ⟨o, ho, hc⟩ := hrow B e'.symm; rw [show X.heap[B]? = _ from hs] at ho; cases ho; cases hc)).trans hs

/-- The orders of those that were met, 0 elsewhere. -/
noncomputable def ordA (t : List (List Int)) (pre : List (Fin t.length)) : Array Value := tab t.length fun j => .int .i64 (if ∃ x ∈ pre, x.val = j then (ord t j : Int) else 0)
theorem ordA_nil (t : List (List Int)) : ordA t [] = tab t.length fun _ => .int .i64 0 := by simp [ordA]
theorem ordA_get (t : List (List Int)) (pre : List (Fin t.length)) {k : Nat} (h : k < t.length) : ∃ v, (ordA t pre)[k]? = some (.int .i64 v) := ⟨_, tab_get h⟩
theorem ordA_put (t : List (List Int)) (pre : List (Fin t.length)) {k : Nat} (h : k < t.length) : (ordA t pre).setIfInBounds k (.int .i64 (ord t k)) = ordA t (pre ++ [⟨k, h⟩]) := by
  unfold ordA
  rw [tab_set h]
  refine tab_congr fun j hj => ?_
  by_cases hjk : j = k
  · subst hjk
    simp
  · have hkj : k ≠ j := fun e => hjk e.symm
    have : (∃ x ∈ pre ++ [⟨k, h⟩], x.val = j) ↔ ∃ x ∈ pre, x.val = j := by
      constructor
      · rintro ⟨x, hx, rfl⟩
        rcases List.mem_append.1 hx with hx | hx
        · exact ⟨x, hx, rfl⟩
        · simp at hx
          subst hx
          exact absurd rfl hjk
      · rintro ⟨x, hx, rfl⟩
        exact ⟨x, List.mem_append.2 (.inl hx), rfl⟩
    simp only [hjk, if_false, this]
theorem ordA_all (t : List (List Int)) : ordA t (List.finRange t.length) = tab t.length fun j => .int .i64 (ord t j) := by
  unfold ordA
  refine tab_congr fun j hj => ?_
  rw [if_pos ⟨⟨j, hj⟩, List.mem_finRange _, rfl⟩]

set_option maxRecDepth 100000 in
set_option maxHeartbeats 1000000 in
theorem implOrdersOf_any (A : Option Addr) (t : List (List Int)) (c B : Nat) (w : World) (hR : Rws w B A t) (hB : B ≤ w.heap.size) (hn : t.length ≤ 1048576) (hl : ∀ i, i < t.length → (row t i).length ≤ 1048576) :
    Calls Try.prog 25 #[.agg #[.slice A t.length c]] w fun e w' => ∃ A' c', e = .returned (.tuple #[.slice A' (ordersR t).length c', .int .i64 (codeR t)]) ∧ Below w.heap.size w w' ∧ OwnI w' w.heap.size A' (ordersR t) := by
  have hb0 : Below w.heap.size w (w.alloc (.cells #[.slice A t.length c] 27)) := (Below.refl _ _).alloc (Nat.le_refl _) _
  have h0 := Has.new w 27 #[.slice A t.length c]
  have hz0 : (w.alloc (.cells #[.slice A t.length c] 27)).heap.size = w.heap.size + 1 := by simp
  have hcon := implIsGroup_any A t c B _ (hR.below hb0 hB) (by rw [hz0]; omega) hn hl
  cases hg : grpB t with
  | false =>
    have HO : Hid (ordersR t = [] ∧ codeR t = 1) := by
      show _ ∧ _
      simp [ordersR, codeR, hg]
    rw [hg] at hcon
    have HCON := Lib.hid hcon
    clear hR hl hcon hg
    refine (callsIn_wide (n := 8)).1 ?_
    refine callsIn_of_wp_marks Try.func25 rfl trivial ?_ rfl
    simp only [Try.ntmps25, List.size_toArray, List.length_cons, List.length_nil, Nat.reduceAdd, Nat.reduceSub, Array.replicate_succ, Array.replicate_zero, List.push_toArray, List.append_toArray, List.nil_append, List.cons_append]
    gi_wp2_with (refine ⟨trivial, ?_⟩; gi_at_call 18; refine (callsIn_wide.2 HCON.out).mono ?_; rintro e w' ⟨rfl, hb1⟩)
    refine ⟨_, results_tmp2 rfl _ _ _, none, 0, by rw [HO.out.1, HO.out.2]; rfl, hb0.trans (hb1.mono (by rw [hz0]; omega)), ?_⟩
    rw [HO.out.1]
    exact ⟨w.heap.size, 0, fun h => absurd h (by simp), Nat.le_refl _, by have := hb1.size; omega, fun j hj => absurd hj (by simp)⟩
  | true =>
    have hgr := grpB_iff.1 hg
    have hn1 := hgr.n1
    have hn8 := hgr.n8
    have hR0 := hR.below hb0 hB
    obtain ⟨bt, ot, bb, oo, C, rfl, hQ⟩ := hR0.sq hgr.n1 hgr.sq
    rw [hg] at hcon
    have HCON := Lib.hid hcon
    have HQ := Lib.hid hQ
    have HG := Lib.hid hgr
    have HO : Hid (ordersR t = (List.range t.length).map (fun a => (ord t a : Int)) ∧ codeR t = 0) := by
      show _ ∧ _
      simp [ordersR, codeR, hg]
    clear hR hl hcon hg hQ hgr hR0
    have hf : ∀ W1 : World, Below (w.heap.size + 1) (w.alloc (.cells #[.slice (some ⟨bt, ot, none⟩) t.length c] 27)) W1 → W1.cell? ⟨w.heap.size, 0, none⟩ = some (.slice (some ⟨bt, ot, none⟩) t.length c) := fun W1 hb => (h0.below hb (by omega)).cell 0
    have HF := Lib.hid hf
    clear hf
    refine (callsIn_wide (n := 8)).1 ?_
    refine callsIn_of_wp_marks Try.func25 rfl trivial ?_ rfl
    simp only [Try.ntmps25, List.size_toArray, List.length_cons, List.length_nil, Nat.reduceAdd, Nat.reduceSub, Array.replicate_succ, Array.replicate_zero, List.push_toArray, List.append_toArray, List.nil_append, List.cons_append]
    gi_wp2_with (refine ⟨trivial, ?_⟩; gi_at_call 18; refine (callsIn_wide.2 HCON.out).mono ?_; rintro e W1 ⟨rfl, hb1⟩; rw [hz0] at hb1; have c1 := HF.out W1 hb1)
    have hmk := makeI t.length hn
    refine ⟨trivial, (callsIn_wide.2 (groupOrder_any (some ⟨bt, ot, none⟩) t.length c W1 hn)).mono ?_⟩
    rintro e W2 ⟨rfl, rfl⟩
    have hb2 : Below W1.heap.size W1 (W1.alloc (.cells #[.slice (some ⟨bt, ot, none⟩) t.length c] 27)) := (Below.refl _ _).alloc (Nat.le_refl _) _
    have hb12 := hb1.trans (hb2.mono (by have := hb1.size; rw [hz0] at this; omega))
    have c2 := HF.out _ hb12
    have hz12 := hb12.size
    rw [hz0] at hz12
    clear c1 hb2
    have HB12 := Lib.hid hb12
    clear hb12
    obtain ⟨W2, hW2⟩ : ∃ W2, (W1.alloc (.cells #[.slice (some ⟨bt, ot, none⟩) t.length c] 27)) = W2 := ⟨_, rfl⟩
    rw [hW2] at HB12 c2 hz12 ⊢
    clear hW2
    have hsl : w.heap.size < W2.heap.size := by omega
    have hb3 : Below W2.heap.size W2 ((W2.alloc (.cells (tab t.length fun _ => .int .i64 0) 2)).alloc (.cells #[.slice (some ⟨W2.heap.size, 0, none⟩) t.length t.length] 34)) := ((Below.refl _ _).alloc (Nat.le_refl _) _).alloc (by simp) _
    have hb13 := HB12.out.trans (hb3.mono (by omega))
    have c3 := HF.out _ hb13
    have bA := ((Has.new W2 2 (tab t.length fun _ => .int .i64 0)).alloc (.cells #[.slice (some ⟨W2.heap.size, 0, none⟩) t.length t.length] 34))
    have bO := Boxed.new (W2.alloc (.cells (tab t.length fun _ => .int .i64 0) 2)) 34 (.slice (some ⟨W2.heap.size, 0, none⟩) t.length t.length)
    have hz3 : ((W2.alloc (.cells (tab t.length fun _ => .int .i64 0) 2)).alloc (.cells #[.slice (some ⟨W2.heap.size, 0, none⟩) t.length t.length] 34)).heap.size = W2.heap.size + 1 + 1 := by simp
    simp only [World.size_alloc] at bO
    have bG : Boxed ((W2.alloc (.cells (tab t.length fun _ => .int .i64 0) 2)).alloc (.cells #[.slice (some ⟨W2.heap.size, 0, none⟩) t.length t.length] 34)) w.heap.size 27 (.slice (some ⟨bt, ot, none⟩) t.length c) := h0.below hb13 (by omega)
    have HX := Lib.hid (And.intro hb13 (And.intro bA (And.intro bO (And.intro bG (And.intro hz3 hb3)))))
    clear hb13 bA bO bG hz3 hb3 HB12 c2 h0
    gi_wp2_with (refine ⟨trivial, ?_⟩; gi_at_call 66; refine (callsIn_wide.2 (elementsOf_any _ t.length c _)).mono ?_; rintro e w' ⟨rfl, rfl⟩)
    obtain ⟨D, hD⟩ : ∃ D, W2.heap.size = D := ⟨_, rfl⟩
    obtain ⟨hb13, bA, bO, bG, hz3, hb3⟩ := HX.out
    clear HX c3
    rw [hD] at hb13 bA bO bG hz3 hb3 hsl ⊢
    obtain ⟨W3, hW3⟩ : ∃ W3, (W2.alloc (.cells (tab t.length fun _ => .int .i64 0) 2)).alloc (.cells #[.slice (some ⟨D, 0, none⟩) t.length t.length] 34) = W3 := ⟨_, rfl⟩
    rw [hW3] at hb13 bA bO bG hz3 hb3 ⊢
    clear hW3
    have hb14 : Below (w.heap.size + 1) (w.alloc (.cells #[.slice (some ⟨bt, ot, none⟩) t.length c] 27)) (W3.alloc (.cells #[.slice (some ⟨bt, ot, none⟩) t.length c] 27)) := hb13.alloc (by omega) _
    have bA := bA.alloc (.cells #[.slice (some ⟨bt, ot, none⟩) t.length c] 27)
    have bO := bO.alloc (.cells #[.slice (some ⟨bt, ot, none⟩) t.length c] 27)
    have bG := bG.alloc (.cells #[.slice (some ⟨bt, ot, none⟩) t.length c] 27)
    have bE := Boxed.new W3 27 (.slice (some ⟨bt, ot, none⟩) t.length c)
    have hz4 : (W3.alloc (.cells #[.slice (some ⟨bt, ot, none⟩) t.length c] 27)).heap.size = D + 1 + 1 + 1 := by simp [hz3]
    rw [hz3] at bE
    obtain ⟨W4, hW4⟩ : ∃ W4, W3.alloc (.cells #[.slice (some ⟨bt, ot, none⟩) t.length c] 27) = W4 := ⟨_, rfl⟩
    rw [hW4] at hb14 bA bO bG bE hz4 ⊢
    clear hW4 hb13 hb3 hz3 hmk
    refine range_top (n := 8) (n₀ := w.heap.size + 1) (by omega) (gf := 92) (lb := #[.pointer (some ⟨D + 1 + 1, 0, none⟩)]) rfl (enters_of Try.func92 (by kernel_rfl) rfl)
      (elements_stops 7 (by omega) (D + 1 + 1) (w.heap.size + 1) t.length c _ W4 (by omega) bE.cell (by omega)) (by omega) (fun _ => rfl)
      (fun pre W => (Has W D 2 (ordA t pre) ∧ Boxed W (D + 1) 34 (.slice (some ⟨D, 0, none⟩) t.length t.length)) ∧ Boxed W w.heap.size 27 (.slice (some ⟨bt, ot, none⟩) t.length c))
      (fun c' _ W => False)
      (OwnFrom.and (OwnFrom.and (Own.from (has_own _ _ _) _) (Own.from (boxed_own _ _ _) _)) (Own.from (boxed_own _ _ _) _))
      (fun _ => ownFrom_pure _ _)
      ⟨⟨by rw [ordA_nil]; exact bA, bO⟩, bG⟩ ?round ?done ?stop
    case round =>
      intro l x W K hK
      have HK := Lib.hid hK
      clear hK
      gi_wp2
      refine HK.out _ ?_
      clear HK
      rintro l pre W hr ⟨⟨bA1, bO1⟩, bG1⟩ hKW _
      obtain ⟨k, hlt⟩ := x
      have HKW := Lib.hid hKW
      have HBA := Lib.hid bA1
      have HBO := Lib.hid bO1
      have HBG := Lib.hid bG1
      have hQ := (HQ.out.below hb14 (by omega)).below hKW.1 (by omega)
      have HQ1 := Lib.hid hQ
      have hbox := bG1.cell
      have hord := bO1.cell
      clear hQ hKW bA1 bO1 bG1
      have hS : (fun w' : World => w'.cell? ⟨D + 1, 0, none⟩ = some (.slice (some ⟨D, 0, none⟩) t.length t.length) ∧ w'.cell? ⟨w.heap.size, 0, none⟩ = some (.slice (some ⟨bt, ot, none⟩) t.length c)) W.drew := ⟨hord, hbox⟩
      gi_wp2_with fail
      refine region_held_round (S := fun w' : World => w'.cell? ⟨D + 1, 0, none⟩ = some (.slice (some ⟨D, 0, none⟩) t.length t.length) ∧ w'.cell? ⟨w.heap.size, 0, none⟩ = some (.slice (some ⟨bt, ot, none⟩) t.length c)) (by kernel_rfl) (by rfl) (by rintro ⟨_, _, h⟩; exact h) ?_
      refine wpAnyH_take (i := 0) (oi := _) (v := .slice (some ⟨D, 0, none⟩) t.length t.length) rfl (by kernel_rfl) (by kernel_rfl) (by kernel_rfl) (fun _ _ _ h => h) (Or.inl ⟨by rfl, by intro w hSw; (try dsimp only at hSw); go_simp⟩) hS ?_
      simp only [Act.put, List.setIfInBounds_toArray, List.set_cons_zero, List.set_cons_succ]
      refine wpAnyH_take (i := 1) (oi := _) (v := .int .i64 k) rfl (by kernel_rfl) (by kernel_rfl) (by kernel_rfl) (fun _ _ _ h => h) (Or.inl ⟨by rfl, by intro w hSw; (try dsimp only at hSw); go_simp⟩) hS ?_
      simp only [Act.put, List.setIfInBounds_toArray, List.set_cons_zero, List.set_cons_succ]
      refine wpAnyH_take (i := 2) (oi := _) (v := .agg #[.slice (some ⟨bt, ot, none⟩) t.length c]) rfl (by kernel_rfl) (by kernel_rfl) (by kernel_rfl) (fun _ _ _ h => h) (Or.inl ⟨by rfl, by intro w hSw; (try dsimp only at hSw); go_simp⟩) hS ?_
      simp only [Act.put, List.setIfInBounds_toArray, List.set_cons_zero, List.set_cons_succ]
      refine wpAnyH_take (i := 3) (oi := _) (v := .int .i64 k) rfl (by kernel_rfl) (by kernel_rfl) (by kernel_rfl) (fun _ _ _ h => h) (Or.inl ⟨by rfl, by intro w hSw; (try dsimp only at hSw); go_simp⟩) hS ?_
      simp only [Act.put, List.setIfInBounds_toArray, List.set_cons_zero, List.set_cons_succ]
      refine wpAnyH_ready (rs := [4]) (by kernel_rfl) (by simp) ?_
      refine AllReadyH.cons (o := _) rfl (fun K hK => ?_) AllReadyH.nil
      go_simp
      have hkd : Keeps (w.heap.size + 1) W W.drew := (Keeps.refl _ W).drewN 1
      refine (elementOrder_any t c B bt ot k bb oo C W.drew (show SqT W.drew B bt ot bb oo C t from HQ1.out) (show B ≤ W.heap.size by have := HKW.out.size; omega) HG.out hlt).mono ?_
      rintro e W6 ⟨rfl, hb6⟩
      have hA6 : Has W6 D 2 (ordA t pre) := Has.below (w := W.drew) HBA.out hb6 HBA.out.lt
      have hO6 : Boxed W6 (D + 1) 34 (.slice (some ⟨D, 0, none⟩) t.length t.length) := Has.below (w := W.drew) HBO.out hb6 HBO.out.lt
      have hG6 : Boxed W6 w.heap.size 27 (.slice (some ⟨bt, ot, none⟩) t.length c) := Has.below (w := W.drew) HBG.out hb6 HBG.out.lt
      have hk6 : Keeps (w.heap.size + 1) W W6 := hkd.trans (Keeps.of_below hb6 (by show _ ≤ W.heap.size; have := HKW.out.size; omega))
      obtain ⟨v0, hv0⟩ := ordA_get t pre hlt
      have hcell := hA6.cell k
      rw [hv0] at hcell
      have hfree := hA6.free k
      refine hK.out _ _ ⟨hO6.cell, hG6.cell⟩ (fun hS6 => ?_)
      clear hK K
      try simp only [Act.put, List.setIfInBounds_toArray, List.set_cons_zero, List.set_cons_succ]
      refine wpAnyH_take (i := 5) (oi := _) (v := .pointer (some ⟨D, k, none⟩)) rfl (by kernel_rfl) (by kernel_rfl) (by kernel_rfl) (fun _ _ _ h => h) (Or.inl ⟨by rfl, by intro w hSw; (try dsimp only at hSw); go_simp⟩) hS6 ?_
      simp only [Act.put, List.setIfInBounds_toArray, List.set_cons_zero, List.set_cons_succ]
      refine wpAnyH_ready (rs := [6]) (by kernel_rfl) (by simp) ?_
      refine AllReadyH.cons (o := _) rfl (fun K hK => ?_) AllReadyH.nil
      go_simp
      have hA7 := hA6.put k (.int .i64 (ord t k))
      rw [ordA_put t pre hlt] at hA7
      have hO7 : Boxed (W6.setCell ⟨D, k, none⟩ (.int .i64 (ord t k))) (D + 1) 34 (.slice (some ⟨D, 0, none⟩) t.length t.length) := Has.far hO6 (by show D + 1 ≠ D; omega) _
      have hG7 : Boxed (W6.setCell ⟨D, k, none⟩ (.int .i64 (ord t k))) w.heap.size 27 (.slice (some ⟨bt, ot, none⟩) t.length c) := Has.far hG6 (by show w.heap.size ≠ D; omega) _
      refine hK.out _ _ ⟨hO7.cell, hG7.cell⟩ (fun hS7 => ?_)
      refine wpAnyH_done (by kernel_rfl) ?_ _
      exact ⟨hk6.setCell (p := ⟨D, k, none⟩) (by show _ ≤ D; omega) _, ⟨hA7, hO7⟩, hG7⟩
    case done =>
      rintro D' xs W hD' rfl ⟨⟨bA1, bO1⟩, bG1⟩ hKW hK
      rw [ordA_all] at bA1
      have hord := bO1.cell
      have HKW := Lib.hid hKW
      have HBA := Lib.hid bA1
      clear hKW bA1
      gi_wp2
      refine ⟨by simp, .inl ⟨_, _, rfl, run_takeDeferred hK, ?_⟩⟩
      have hne : D ≠ D' := fun e => by
        subst e
        rw [show W.heap[D]? = _ from HBA.out] at hK
        cases hK
      have hA8 : Has (W.putObj D' (.deferred none)) D 2 _ := ((grownBy_putObj' W D' (.deferred none)).block D HBA.out.lt (fun e => hne (by cases e; rfl))).trans HBA.out
      have hbz := belowK_b (w := w) (Nat.le_refl _) W D' _ (.deferred none) (by omega) hK rfl rfl
      refine ⟨_, results_tmp2 rfl _ _ _, some ⟨D, 0, none⟩, t.length, by rw [HO.out.1, HO.out.2]; simp, (hb0.trans ((hb14.trans HKW.out.1).mono (by omega))).trans hbz, ?_⟩
      rw [HO.out.1]
      refine ⟨D, 0, fun _ => rfl, by omega, hA8.lt, fun j hj => ?_⟩
      have hj' : j < t.length := by simpa using hj
      rw [Nat.zero_add, hA8.cell j, tab_get hj', hA8.free j]
      refine ⟨?_, rfl⟩
      simp [nth, hj']
    case stop =>
      rintro D c' pre W hD hpre h
      exact h.elim

end Go.Proofs.Ytnjcjdfleilgfaa
