/- moduleWith: a module whose units a closure tells, whatever closure. -/
import Derived.Deep.RegionHeld3
import Derived.Test.YtcdijeeabgmgmaaGreatDoorCel
import Derived.Test.YtcdijeeabgmgmaaGreatDoorIsg
import Derived.Test.YtcdijeeabgmgmaaGreatDoorBa
namespace Go.Proofs.YtcdijeeabgmgmaaGreatDoor
open Go.RowKit Go.Shelf

attribute [local go_sem] Oper.semAt_some

/-- The values of those that were met, 0 elsewhere. -/
noncomputable def valA (n : Nat) (V : Nat → Int) (pre : List (Fin n)) : Array Value := tab n fun j => .int .i64 (if ∃ x ∈ pre, x.val = j then V j else 0)
theorem valA_nil (n : Nat) (V : Nat → Int) : valA n V [] = tab n fun _ => .int .i64 0 := by simp [valA]
theorem valA_get (n : Nat) (V : Nat → Int) (pre : List (Fin n)) {k : Nat} (h : k < n) : ∃ v, (valA n V pre)[k]? = some (.int .i64 v) := ⟨_, tab_get h⟩
theorem valA_put (n : Nat) (V : Nat → Int) (pre : List (Fin n)) {k : Nat} (h : k < n) : (valA n V pre).setIfInBounds k (.int .i64 (V k)) = valA n V (pre ++ [⟨k, h⟩]) := by
  unfold valA
  rw [tab_set h]
  refine tab_congr fun j hj => ?_
  by_cases hjk : j = k
  · subst hjk
    simp
  · have hkj : k ≠ j := fun e => hjk e.symm
    have : (∃ x ∈ pre ++ [⟨k, h⟩], x.val = j) ↔ ∃ x ∈ pre, x.val = j := by
      constructor
      · rintro ⟨x, hx, rfl⟩
        rcases List.mem_append.1 hx with hx | hx
        · exact ⟨x, hx, rfl⟩
        · simp at hx
          subst hx
          exact absurd rfl hjk
      · rintro ⟨x, hx, rfl⟩
        exact ⟨x, List.mem_append.2 (.inl hx), rfl⟩
    simp only [hjk, if_false, this]
theorem valA_all (n : Nat) (V : Nat → Int) : valA n V (List.finRange n) = tab n fun j => .int .i64 (V j) := by
  unfold valA
  refine tab_congr fun j hj => ?_
  rw [if_pos ⟨⟨j, hj⟩, List.mem_finRange _, rfl⟩]

set_option maxRecDepth 100000 in
set_option maxHeartbeats 2000000 in
theorem moduleWith_any (A : Option Addr) (n c : Nat) (m : Int) (kf : Nat) (cap : Array Value) (V : Nat → Int) (w : World) (hn : n ≤ 8)
    (eg : ∀ args w, (callFunc kf args).run Tryz.prog w = .ok (.enter kf args) w)
    (hF : ∀ W', Ex w W' → ∀ x : Nat, x < n → Calls Tryz.prog kf (#[.int .i64 (x : Int)] ++ cap) W' fun e w' => e = .returned (.int .i64 (V x)) ∧ Ex W' w') :
    Calls Tryz.prog 126 #[.agg #[.slice A n c], .int .i64 m, .func (.func kf) #[] cap] w fun e w' => ∃ A' n', e = .returned (.agg #[.int .i64 m, .slice A' n n']) ∧ Ex w w' ∧ OwnL w' w.heap.size w'.heap.size A' ((List.range n).map V) := by
  have HF := Lib.hid hF
  have HEG := Lib.hid eg
  have hmk := makeI n (by omega)
  clear hF eg
  refine (callsIn_wide (n := 8)).1 ?_
  refine callsIn_of_wp_marks Tryz.func126 rfl trivial ?_ rfl
  simp only [Tryz.ntmps126, List.size_toArray, List.length_cons, List.length_nil, Nat.reduceAdd, Nat.reduceSub, Array.replicate_succ, Array.replicate_zero, List.push_toArray, List.append_toArray, List.nil_append, List.cons_append]
  have e0 := ((Ex.new w (.cells #[.slice A n c] 32)).alloc (.cells #[.func (.func kf) #[] cap] 126)).alloc (.cells #[.int .i64 0, .slice none 0 0] 52)
  have b0 := ((Has.new w 32 #[.slice A n c]).alloc (.cells #[.func (.func kf) #[] cap] 126)).alloc (.cells #[.int .i64 0, .slice none 0 0] 52)
  have b1 := (Has.newAt (w := w.alloc (.cells #[.slice A n c] 32)) (e := 126) (cs := #[.func (.func kf) #[] cap]) (k := w.heap.size + 1) (by simp)).alloc (.cells #[.int .i64 0, .slice none 0 0] 52)
  have b2 := Has.newAt (w := (w.alloc (.cells #[.slice A n c] 32)).alloc (.cells #[.func (.func kf) #[] cap] 126)) (e := 52) (cs := #[.int .i64 0, .slice none 0 0]) (k := w.heap.size + 1 + 1) (by simp)
  gi_wp2_with fail
  generalize ((w.alloc (.cells #[.slice A n c] 32)).alloc (.cells #[.func (.func kf) #[] cap] 126)).alloc (.cells #[.int .i64 0, .slice none 0 0] 52) = W0 at *
  refine ⟨trivial, (callsIn_wide.2 (groupOrder_ex A n c W0 (by omega))).mono ?_⟩
  rintro e W1 ⟨rfl, he1⟩
  have HB0 := Lib.hid (b0.ex he1)
  have HB1 := Lib.hid (b1.ex he1)
  have HB2 := Lib.hid (b2.ex he1)
  have hz1 := (b2.ex he1).lt
  have HE1 := Lib.hid (e0.trans he1)
  clear e0 b0 b1 b2 he1
  have e3 := (Ex.new W1 (.cells (tab n fun _ => .int .i64 0) 2)).alloc (.cells #[.int .i64 m, .slice (some ⟨W1.heap.size, 0, none⟩) n n] 52)
  have bA := (Has.new W1 2 (tab n fun _ => .int .i64 0)).alloc (.cells #[.int .i64 m, .slice (some ⟨W1.heap.size, 0, none⟩) n n] 52)
  have bO := Has.newAt (w := W1.alloc (.cells (tab n fun _ => .int .i64 0) 2)) (e := 52) (cs := #[.int .i64 m, .slice (some ⟨W1.heap.size, 0, none⟩) n n]) (k := W1.heap.size + 1) (by simp)
  have c3 := (HB0.out.ex e3).cell 0
  have hz3 : ((W1.alloc (.cells (tab n fun _ => .int .i64 0) 2)).alloc (.cells #[.int .i64 m, .slice (some ⟨W1.heap.size, 0, none⟩) n n] 52)).heap.size = W1.heap.size + 1 + 1 := by simp
  have HX := Lib.hid (And.intro e3 (And.intro bA (And.intro bO hz3)))
  clear e3 bA bO hz3
  gi_wp2_with (refine ⟨trivial, ?_⟩; gi_at_call 74; refine (callsIn_wide.2 (elementsOf_any _ n c _)).mono ?_; rintro e w' ⟨rfl, rfl⟩)
  obtain ⟨D, hD⟩ : ∃ D, W1.heap.size = D := ⟨_, rfl⟩
  obtain ⟨e3, bA, bO, hz3⟩ := HX.out
  clear HX c3
  rw [hD] at bA bO hz1 hz3 ⊢
  have e4 := e3.alloc (.cells #[.slice A n c] 32)
  have bA := bA.alloc (.cells #[.slice A n c] 32)
  have bO := bO.alloc (.cells #[.slice A n c] 32)
  rw [hD] at e4
  obtain ⟨W3, hW3⟩ : ∃ W3, (W1.alloc (.cells (tab n fun _ => .int .i64 0) 2)).alloc (.cells #[.int .i64 m, .slice (some ⟨D, 0, none⟩) n n] 52) = W3 := ⟨_, rfl⟩
  rw [hW3] at bA bO e4 hz3 ⊢
  have bE := Has.new W3 32 #[.slice A n c]
  have hz4 : (W3.alloc (.cells #[.slice A n c] 32)).heap.size = D + 1 + 1 + 1 := by simp [hz3]
  rw [hz3] at bE
  clear hW3 hmk e3
  have b1 := HB1.out.ex e4
  have b2 := HB2.out.ex e4
  have e04 := HE1.out.trans e4
  clear HB0 HB1 HB2 HE1 e4
  generalize W3.alloc (.cells #[.slice A n c] 32) = W4 at *
  have HE04 := Lib.hid e04
  have HB2 := Lib.hid b2
  clear e04 b2 hz3
  refine range_top (n := 8) (n₀ := w.heap.size + 1 + 1 + 1) (by omega) (gf := 109) (lb := #[.pointer (some ⟨D + 1 + 1, 0, none⟩)]) rfl (enters_of Tryz.func109 (by kernel_rfl) rfl)
    (elements_stops 7 (by omega) (D + 1 + 1) (w.heap.size + 1 + 1 + 1) n c _ W4 (by omega) (bE.cell 0) (by omega)) (by omega) (fun _ => rfl)
    (fun pre W => (Has W D 2 (valA n V pre) ∧ Has W (D + 1) 52 #[.int .i64 m, .slice (some ⟨D, 0, none⟩) n n]) ∧ Has W (w.heap.size + 1) 126 #[.func (.func kf) #[] cap])
    (fun c' _ W => False)
    (OwnFrom.and (OwnFrom.and (Own.from (has_own _ _ _) _) (Own.from (has_own _ _ _) _)) (Own.from (has_own _ _ _) _))
    (fun _ => ownFrom_pure _ _)
    ⟨⟨by rw [valA_nil]; exact bA, bO⟩, b1⟩ ?round ?done ?stop
  case round =>
    intro l x W K hK
    have HK := Lib.hid hK
    clear hK
    gi_wp2
    refine HK.out _ ?_
    clear HK
    rintro l pre W hr ⟨⟨bA1, bO1⟩, bG1⟩ hKW _
    obtain ⟨k, hlt⟩ := x
    have HKW := Lib.hid hKW
    have HBA := Lib.hid bA1
    have HBO := Lib.hid bO1
    have HBG := Lib.hid bG1
    have hfn := bG1.cell 0
    have hord := bO1.cell 1
    clear hKW bA1 bO1 bG1
    have hS : (fun w' : World => w'.cell? ⟨D + 1, 1, none⟩ = some (.slice (some ⟨D, 0, none⟩) n n) ∧ w'.cell? ⟨w.heap.size + 1, 0, none⟩ = some (.func (.func kf) #[] cap)) W.drew := ⟨hord, hfn⟩
    have hk0 : (0 : Int) ≤ (k : Int) := by omega
    have hkn : (k : Int) < (n : Int) := by omega
    gi_wp2_with fail
    refine region_held_round (S := fun w' : World => w'.cell? ⟨D + 1, 1, none⟩ = some (.slice (some ⟨D, 0, none⟩) n n) ∧ w'.cell? ⟨w.heap.size + 1, 0, none⟩ = some (.func (.func kf) #[] cap)) (by kernel_rfl) (by rfl) (by rintro ⟨_, _, h⟩; exact h) ?_
    refine wpAnyH_take (i := 0) (oi := _) (v := .pointer (some ⟨D + 1, 1, none⟩)) rfl (by kernel_rfl) (by kernel_rfl) (by kernel_rfl) (fun _ _ _ h => h) (Or.inl ⟨by rfl, by intro w hSw; (try dsimp only at hSw); go_simp⟩) hS ?_
    simp only [Act.put, List.setIfInBounds_toArray]
    refine wpAnyH_take (i := 1) (oi := _) (v := .slice (some ⟨D, 0, none⟩) n n) rfl (by kernel_rfl) (by kernel_rfl) (by kernel_rfl) (fun _ _ _ h => h) (Or.inl ⟨by rfl, by intro w hSw; (try dsimp only at hSw); go_simp⟩) hS ?_
    simp only [Act.put]
    refine wpAnyH_take (i := 2) (oi := _) (v := .int .i64 k) rfl (by kernel_rfl) (by kernel_rfl) (by kernel_rfl) (fun _ _ _ h => h) (Or.inl ⟨by rfl, by intro w hSw; (try dsimp only at hSw); go_simp⟩) hS ?_
    simp only [Act.put]
    refine wpAnyH_take (i := 3) (oi := _) (v := .func (.func kf) #[] cap) rfl (by kernel_rfl) (by kernel_rfl) (by kernel_rfl) (fun _ _ _ h => h) (Or.inl ⟨by rfl, by intro w hSw; (try dsimp only at hSw); go_simp⟩) hS ?_
    simp only [Act.put]
    refine wpAnyH_take (i := 4) (oi := _) (v := .int .i64 k) rfl (by kernel_rfl) (by kernel_rfl) (by kernel_rfl) (fun _ _ _ h => h) (Or.inl ⟨by rfl, by intro w hSw; (try dsimp only at hSw); go_simp⟩) hS ?_
    simp only [Act.put]
    refine wpAnyH_ready (rs := [5]) (by kernel_rfl) (by simp) ?_
    refine AllReadyH.cons (o := _) rfl (fun K hK => ?_) AllReadyH.nil
    have hegw := HEG.out
    go_simp
    clear hegw
    have hEW : Ex w W := HE04.out.trans' HKW.out.1 (by omega)
    have hED : Ex w W.drew := hEW.drew
    have hkd : Keeps (w.heap.size + 1 + 1 + 1) W W.drew := (Keeps.refl _ W).drewN 1
    refine (HF.out W.drew hED k hlt).mono ?_
    rintro e W6 ⟨rfl, he6⟩
    have hA6 : Has W6 D 2 (valA n V pre) := Has.ex (w := W.drew) HBA.out he6
    have hO6 : Has W6 (D + 1) 52 #[.int .i64 m, .slice (some ⟨D, 0, none⟩) n n] := Has.ex (w := W.drew) HBO.out he6
    have hG6 : Has W6 (w.heap.size + 1) 126 #[.func (.func kf) #[] cap] := Has.ex (w := W.drew) HBG.out he6
    have hk6 : Keeps (w.heap.size + 1 + 1 + 1) W W6 := hkd.trans (Keeps.of_below he6 (by show _ ≤ W.heap.size; have := HKW.out.size; omega))
    obtain ⟨v0, hv0⟩ := valA_get n V pre hlt
    have hcell := hA6.cell k
    rw [hv0] at hcell
    have hfree := hA6.free k
    refine hK.out _ _ ⟨hO6.cell 1, hG6.cell 0⟩ (fun hS6 => ?_)
    clear hK K
    try simp only [Act.put, List.setIfInBounds_toArray, List.set_cons_zero, List.set_cons_succ]
    refine wpAnyH_take (i := 6) (oi := _) (v := .pointer (some ⟨D, k, none⟩)) rfl (by kernel_rfl) (by kernel_rfl) (by kernel_rfl) (fun _ _ _ h => h) (Or.inl ⟨by rfl, by intro w hSw; (try dsimp only at hSw); go_simp⟩) hS6 ?_
    simp only [Act.put, List.setIfInBounds_toArray]
    refine wpAnyH_ready (rs := [7]) (by kernel_rfl) (by simp) ?_
    refine AllReadyH.cons (o := _) rfl (fun K hK => ?_) AllReadyH.nil
    go_simp
    have hA7 := hA6.put k (.int .i64 (V k))
    rw [valA_put n V pre hlt] at hA7
    have hO7 : Has (W6.setCell ⟨D, k, none⟩ (.int .i64 (V k))) (D + 1) 52 #[.int .i64 m, .slice (some ⟨D, 0, none⟩) n n] := Has.far hO6 (by show D + 1 ≠ D; omega) _
    have hG7 : Has (W6.setCell ⟨D, k, none⟩ (.int .i64 (V k))) (w.heap.size + 1) 126 #[.func (.func kf) #[] cap] := Has.far hG6 (by show w.heap.size + 1 ≠ D; omega) _
    refine hK.out _ _ ⟨hO7.cell 1, hG7.cell 0⟩ (fun hS7 => ?_)
    refine wpAnyH_done (by kernel_rfl) ?_ _
    exact ⟨hk6.setCell (p := ⟨D, k, none⟩) (by show _ ≤ D; omega) _, ⟨hA7, hO7⟩, hG7⟩
  case done =>
    rintro D' xs W hD' rfl ⟨⟨bA1, bO1⟩, -⟩ hKW hK
    rw [valA_all] at bA1
    have hord := bO1.cell 0
    have hord' := bO1.cell 1
    have hB2 : Has W (w.heap.size + 1 + 1) 52 #[.int .i64 0, .slice none 0 0] := HB2.out.below hKW.1 (by omega)
    have cr := hB2.cell 0
    have cr' := hB2.cell 1
    have fr := hB2.free 0
    have fr' := hB2.free 1
    have HKW := Lib.hid hKW
    have HBA := Lib.hid bA1
    have HBR := Lib.hid hB2
    clear hKW bA1 hB2
    gi_wp2
    have hz6 := HE04.out.size
    have hne : w.heap.size + 1 + 1 ≠ D' := by omega
    have hK' : ((W.setCell ⟨w.heap.size + 1 + 1, 0, none⟩ (.int .i64 m)).setCell ⟨w.heap.size + 1 + 1, 1, none⟩ (.slice (some ⟨D, 0, none⟩) n n)).heap[D']? = some (.deferred (some [])) :=
      (Below.heap_setCell _ _ _ D' (fun e => hne e.symm)).trans ((Below.heap_setCell _ _ _ D' (fun e => hne e.symm)).trans hK)
    refine ⟨by simp, .inl ⟨_, _, rfl, run_takeDeferred hK', ?_⟩⟩
    have hneD : D ≠ D' := by omega
    have hRs : Has ((W.setCell ⟨w.heap.size + 1 + 1, 0, none⟩ (.int .i64 m)).setCell ⟨w.heap.size + 1 + 1, 1, none⟩ (.slice (some ⟨D, 0, none⟩) n n)) (w.heap.size + 1 + 1) 52 #[.int .i64 m, .slice (some ⟨D, 0, none⟩) n n] := HBR.out.put2
    have hAs : Has ((W.setCell ⟨w.heap.size + 1 + 1, 0, none⟩ (.int .i64 m)).setCell ⟨w.heap.size + 1 + 1, 1, none⟩ (.slice (some ⟨D, 0, none⟩) n n)) D 2 (tab n fun j => .int .i64 (V j)) := Has.far (Has.far HBA.out (by show D ≠ w.heap.size + 1 + 1; omega) _) (by show D ≠ w.heap.size + 1 + 1; omega) _
    have hEs : Ex w ((W.setCell ⟨w.heap.size + 1 + 1, 0, none⟩ (.int .i64 m)).setCell ⟨w.heap.size + 1 + 1, 1, none⟩ (.slice (some ⟨D, 0, none⟩) n n)) :=
      ((HE04.out.trans' HKW.out.1 (by omega)).setCell (by show w.heap.size ≤ w.heap.size + 1 + 1; omega) _).setCell (by show w.heap.size ≤ w.heap.size + 1 + 1; omega) _
    generalize ((W.setCell ⟨w.heap.size + 1 + 1, 0, none⟩ (.int .i64 m)).setCell ⟨w.heap.size + 1 + 1, 1, none⟩ (.slice (some ⟨D, 0, none⟩) n n)) = Ws at *
    have hg8 := grownBy_putObj' Ws D' (.deferred none)
    have hR8 : Has (Ws.putObj D' (.deferred none)) (w.heap.size + 1 + 1) 52 #[.int .i64 m, .slice (some ⟨D, 0, none⟩) n n] := (hg8.block _ hRs.lt (fun e => hne (by cases e; rfl))).trans hRs
    have hA8 : Has (Ws.putObj D' (.deferred none)) D 2 (tab n fun j => .int .i64 (V j)) := (hg8.block _ hAs.lt (fun e => hneD (by cases e; rfl))).trans hAs
    have c8 := hR8.cell 0
    have c8' := hR8.cell 1
    refine ⟨.agg #[.int .i64 m, .slice (some ⟨D, 0, none⟩) n n], by simp [results, Tryz.results126, go_sem, c8, c8'], _, _, rfl, Below.grown hEs hg8 hEs.size (fun k hk => by cases hk; omega), ?_⟩
    have hO := OwnL.of_has (lo := w.heap.size) (xs := (List.range n).map V) (n := n) (by
      rw [tab_congr (g := fun j => .int .i64 (V j)) (fun j hj => by simp [nth, hj])]
      exact hA8) (by simp) (by omega)
    exact hO
  case stop =>
    rintro D c' pre W hD hpre h
    exact h.elim

end Go.Proofs.YtcdijeeabgmgmaaGreatDoor
