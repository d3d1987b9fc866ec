/- Closed sets, by the program. -/
import Derived.Test.YtalejhbdbclfaaaDoorCi
namespace Go.Proofs.YtalejhbdbclfaaaDoor
open Go.RowKit Go.Shelf

attribute [local go_sem] Oper.semAt_some

theorem map_snoc {s : Nat} (pre : List {a : Nat // a ∈ elN s}) (x : {a : Nat // a ∈ elN s}) : (pre ++ [x]).map (fun x => x.1) = pre.map (fun x => x.1) ++ [x.1] := by simp

set_option maxRecDepth 100000 in
set_option maxHeartbeats 2000000 in
theorem withProducts_any (A : Option Addr) (t : List (List Int)) (c s : Nat) (w : World) (hR : RwsW w A t) (hg : IsGrp t) (hs : s < 2 ^ t.length) (hT : TabL w) :
    Calls Tryd.prog 171 #[.agg #[.slice A t.length c], .int .u64 (s : Int)] w fun e w' => e = .returned (.int .u64 (stp t s : Int)) ∧ Ex w w' := by
  obtain ⟨b, o, bb, oo, C, rfl, hQ⟩ := hR.sq hg
  have hn8 := hg.n8
  have hs256 := lt256 hn8 hs
  have HG := Lib.hid hg
  have HQ := Lib.hid hQ
  have HSL := Lib.hid hs
  have HTB := Lib.hid hT
  have hTl := hT.lt
  clear hQ hR hg hs hT
  refine (callsIn_wide (n := 20)).1 ?_
  refine callsIn_of_wp_marks Tryd.func171 rfl trivial ?_ rfl
  simp only [Tryd.ntmps171, List.size_toArray, List.length_cons, List.length_nil, Nat.reduceAdd, Nat.reduceSub, Array.replicate_succ, Array.replicate_zero, List.push_toArray, List.append_toArray, List.nil_append, List.cons_append]
  gi_wp2_with (refine ⟨trivial, ?_⟩; gi_at_call 173; refine (callsIn_wide.2 (setAll_any s _)).mono ?_; rintro e w' ⟨rfl, rfl⟩)
  have e0 : Ex w ((((w.alloc (.cells #[.slice (some ⟨b, o, none⟩) t.length c] 27)).alloc (.cells #[.int .u64 (s : Int)] 129)).alloc (.cells #[.int .u64 (s : Int)] 129)).alloc (.cells #[.int .u64 (s : Int)] 129)) := ((((Ex.refl w).alloc _).alloc _).alloc _).alloc _
  have b0 : Has ((((w.alloc (.cells #[.slice (some ⟨b, o, none⟩) t.length c] 27)).alloc (.cells #[.int .u64 (s : Int)] 129)).alloc (.cells #[.int .u64 (s : Int)] 129)).alloc (.cells #[.int .u64 (s : Int)] 129)) (w.heap.size) 27 #[.slice (some ⟨b, o, none⟩) t.length c] := ((((Has.newAt (w := w) (e := 27) (cs := #[.slice (some ⟨b, o, none⟩) t.length c]) (k := w.heap.size) (by simp)).alloc _).alloc _).alloc _)
  have b1 : Has ((((w.alloc (.cells #[.slice (some ⟨b, o, none⟩) t.length c] 27)).alloc (.cells #[.int .u64 (s : Int)] 129)).alloc (.cells #[.int .u64 (s : Int)] 129)).alloc (.cells #[.int .u64 (s : Int)] 129)) (w.heap.size + 1) 129 #[.int .u64 (s : Int)] := (((Has.newAt (w := (w.alloc (.cells #[.slice (some ⟨b, o, none⟩) t.length c] 27))) (e := 129) (cs := #[.int .u64 (s : Int)]) (k := w.heap.size + 1) (by simp)).alloc _).alloc _)
  have b2 : Has ((((w.alloc (.cells #[.slice (some ⟨b, o, none⟩) t.length c] 27)).alloc (.cells #[.int .u64 (s : Int)] 129)).alloc (.cells #[.int .u64 (s : Int)] 129)).alloc (.cells #[.int .u64 (s : Int)] 129)) (w.heap.size + 1 + 1) 129 #[.int .u64 (s : Int)] := ((Has.newAt (w := ((w.alloc (.cells #[.slice (some ⟨b, o, none⟩) t.length c] 27)).alloc (.cells #[.int .u64 (s : Int)] 129))) (e := 129) (cs := #[.int .u64 (s : Int)]) (k := w.heap.size + 1 + 1) (by simp)).alloc _)
  have b3 : Has ((((w.alloc (.cells #[.slice (some ⟨b, o, none⟩) t.length c] 27)).alloc (.cells #[.int .u64 (s : Int)] 129)).alloc (.cells #[.int .u64 (s : Int)] 129)).alloc (.cells #[.int .u64 (s : Int)] 129)) (w.heap.size + 1 + 1 + 1) 129 #[.int .u64 (s : Int)] := (Has.newAt (w := (((w.alloc (.cells #[.slice (some ⟨b, o, none⟩) t.length c] 27)).alloc (.cells #[.int .u64 (s : Int)] 129)).alloc (.cells #[.int .u64 (s : Int)] 129))) (e := 129) (cs := #[.int .u64 (s : Int)]) (k := w.heap.size + 1 + 1 + 1) (by simp))
  have hsz : ((((w.alloc (.cells #[.slice (some ⟨b, o, none⟩) t.length c] 27)).alloc (.cells #[.int .u64 (s : Int)] 129)).alloc (.cells #[.int .u64 (s : Int)] 129)).alloc (.cells #[.int .u64 (s : Int)] 129)).heap.size = w.heap.size + 1 + 1 + 1 + 1 := by simp
  have hTW := HTB.out.ex e0
  generalize ((((w.alloc (.cells #[.slice (some ⟨b, o, none⟩) t.length c] 27)).alloc (.cells #[.int .u64 (s : Int)] 129)).alloc (.cells #[.int .u64 (s : Int)] 129)).alloc (.cells #[.int .u64 (s : Int)] 129)) = W0 at *
  have HE0 := Lib.hid e0
  have HSZ := Lib.hid hsz
  refine range_topB (n := 20) (n₀ := w.heap.size) (by omega) (gf := 202) (lb := #[.pointer (some ⟨w.heap.size + 1 + 1 + 1, 0, none⟩)]) rfl (enters_of Tryd.func202 (by kernel_rfl) rfl)
    (all_stops 19 (by omega) (w.heap.size + 1 + 1 + 1) w.heap.size s W0 hs256 (by omega) (b3.cell 0) hTW hTl) (by omega) (fun _ => rfl) 2 (fun x => .int .i64 (x.1 : Int))
    (fun pre W => Has W (w.heap.size + 1 + 1) 129 #[.int .u64 (tabS t (elN s) s (pre.map fun x => x.1) : Int)] ∧ Has W w.heap.size 27 #[.slice (some ⟨b, o, none⟩) t.length c] ∧ Has W (w.heap.size + 1) 129 #[.int .u64 (s : Int)])
    (fun c' _ W => False)
    (OwnFrom.and (Own.from (has_own _ _ _) _) (OwnFrom.and (Own.from (has_own _ _ _) _) (Own.from (has_own _ _ _) _)))
    (fun _ => ownFrom_pure _ _)
    ⟨b2, b0, b1⟩ ?round ?done ?stop
  case round =>
    clear b0 b1 b2 b3 e0 hsz hTW
    intro l x W K hK
    have HK := Lib.hid hK
    clear hK
    gi_wp2
    refine HK.out _ ?_
    clear HK
    rintro l B1 pre W1 hB1 hle1 hr ⟨bM, bG, bS⟩ hKW bX _
    rw [hB1]
    clear hB1
    obtain ⟨a, ha⟩ := x
    dsimp only at bX
    have HKW := Lib.hid hKW
    have HR := Lib.hid hr
    have haN := el_lt HSL.out ha
    have hSN : tabS t (elN s) s ((pre ++ [(⟨a, ha⟩ : {a : Nat // a ∈ elN s})]).map fun x => x.1) = rowS t a (tabS t (elN s) s (pre.map fun x => x.1)) (elN s) := by rw [map_snoc]; exact tabS_snoc _ _ _ _
    have hT1 : tabS t (elN s) s (pre.map fun x => x.1) < 2 ^ t.length := tabS_lt HG.out (fun x hx => el_lt HSL.out hx) (fun x hx => by
      obtain ⟨y, _, rfl⟩ := List.mem_map.1 hx
      exact el_lt HSL.out y.2) HSL.out
    have HSN := Lib.hid hSN
    obtain ⟨T, hTe⟩ : ∃ T, tabS t (elN s) s (pre.map fun x => x.1) = T := ⟨_, rfl⟩
    rw [hTe] at bM hT1 HSN
    have HT1 := Lib.hid hT1
    clear hKW hr hSN hTe hT1
    have hboxS := bS.cell 0
    gi_wp2_with (refine ⟨trivial, ?_⟩; gi_at_call 173; refine (CallsIn.inRound l (callsIn_wide.2 (setAll_any s _))).mono ?_; rintro e w' ⟨rfl, rfl⟩)
    clear hboxS
    have bMA := bM.alloc (.cells #[.int .u64 (s : Int)] 129)
    have bGA := bG.alloc (.cells #[.int .u64 (s : Int)] 129)
    have bSA := bS.alloc (.cells #[.int .u64 (s : Int)] 129)
    have bXA : Has (W1.alloc (.cells #[.int .u64 (s : Int)] 129)) B1 2 #[.int .i64 (a : Int)] := Has.alloc bX _
    have bEA := Has.new W1 129 #[.int .u64 (s : Int)]
    have hK1 : Keeps w.heap.size W1 (W1.alloc (.cells #[.int .u64 (s : Int)] 129)) := (Keeps.refl _ _).alloc (by have := bG.lt; omega) _
    have hszA : (W1.alloc (.cells #[.int .u64 (s : Int)] 129)).heap.size = W1.heap.size + 1 := by simp
    have hrA : ∃ r, (W1.alloc (.cells #[.int .u64 (s : Int)] 129)).heap[l]? = some (.loop r) := by
      obtain ⟨r, hr⟩ := HR.out
      exact ⟨r, (Below.heap_alloc W1 _ l (Array.getElem?_eq_some_iff.1 hr).1).trans hr⟩
    have hltG := bG.lt
    have HBB := Lib.hid (show w.heap.size + 1 + 1 < B1 by have := HSZ.out; omega)
    clear bM bG bS bX
    obtain ⟨W2, hW2⟩ : ∃ W2, W1.alloc (.cells #[.int .u64 (s : Int)] 129) = W2 := ⟨_, rfl⟩
    rw [hW2] at bMA bGA bSA bXA bEA hK1 hszA hrA ⊢
    clear hW2
    have HK1 := Lib.hid hK1
    have hE2 : Ex w W2 := HE0.out.trans' (HKW.out.1.trans hK1.1) (Nat.le_refl _)
    have hT2 := HTB.out.ex hE2
    refine range_in (n := 20 - 1 - 1) (n₀ := w.heap.size) (by omega) hrA (gf := 202) (lb := #[.pointer (some ⟨W1.heap.size, 0, none⟩)]) rfl (enters_of Tryd.func202 (by kernel_rfl) rfl)
      (all_stops (20 - 1 - 1 - 1) (by omega) W1.heap.size w.heap.size s W2 hs256 (by omega) (bEA.cell 0) hT2 hTl) (by omega) (fun _ => rfl)
      (fun pre W => Has W (w.heap.size + 1 + 1) 129 #[.int .u64 (rowS t a T (pre.map fun x => x.1) : Int)] ∧ Has W w.heap.size 27 #[.slice (some ⟨b, o, none⟩) t.length c] ∧ Has W (w.heap.size + 1) 129 #[.int .u64 (s : Int)] ∧ Has W B1 2 #[.int .i64 (a : Int)])
      (fun c' _ W => False)
      (OwnFrom.and (Own.from (has_own _ _ _) _) (OwnFrom.and (Own.from (has_own _ _ _) _) (OwnFrom.and (Own.from (has_own _ _ _) _) (Own.from (has_own _ _ _) _))))
      (fun _ => ownFrom_pure _ _)
      ⟨bMA, bGA, bSA, bXA⟩ ?round2 ?done2 ?stop2
    case done2 =>
      rintro ys W hys ⟨bM2, bG2, bS2, _⟩ hKW2
      rw [hys] at bM2
      gi_wp2
      refine ⟨HK1.out.trans hKW2, ?_, bG2, bS2⟩
      show Has _ _ _ _
      rw [HSN.out]
      exact bM2
    case stop2 =>
      rintro c' pre' W hpre h
      exact h.elim
    case round2 =>
      clear bMA bGA bSA bXA bEA hK1 hszA hrA hT2
      have HE2 := Lib.hid hE2
      clear hE2
      intro l2 y W K hK
      have HK := Lib.hid hK
      clear hK
      gi_wp2
      refine HK.out _ ?_
      clear HK
      rintro l2 pre2 W3 hr2 ⟨bM2, bG2, bS2, bX2⟩ hKW2 _
      obtain ⟨d, hd⟩ := y
      have hdN := el_lt HSL.out hd
      have hE3 : Ex w W3 := HE2.out.trans' hKW2.1 (Nat.le_refl _)
      have hq := HQ.out.ex hE3
      have hra := hq.row_ haN
      have hea : W3.cell? ⟨bb a, oo a + d, none⟩ = some (.int .i64 (mul t a d : Int)) := by rw [hq.ent_ haN hdN, HG.out.ent haN hdN]
      have hm8 : mul t a d < 8 := by have := HG.out.mul_lt haN hdN; omega
      have hRN : rowS t a T ((pre2 ++ [(⟨d, hd⟩ : {a : Nat // a ∈ elN s})]).map fun x => x.1) = rowS t a T (pre2.map fun x => x.1) ||| 2 ^ mul t a d := by rw [map_snoc]; exact rowS_snoc _ _ _ _
      have hRl := lt256 hn8 (rowS_lt HG.out haN (fun x hx => by
        obtain ⟨y, _, rfl⟩ := List.mem_map.1 hx
        exact el_lt HSL.out y.2) HT1.out : rowS t a T (pre2.map fun x => x.1) < 2 ^ t.length)
      have HRN := Lib.hid hRN
      clear hRN hq hE3
      obtain ⟨R, hRe⟩ : ∃ R, rowS t a T (pre2.map fun x => x.1) = R := ⟨_, rfl⟩
      obtain ⟨z, hz⟩ : ∃ z, mul t a d = z := ⟨_, rfl⟩
      rw [hRe] at bM2 hRl HRN
      rw [hz] at hea hm8 HRN
      clear hRe hz
      have HBM := Lib.hid bM2
      have HBG := Lib.hid bG2
      have HBS := Lib.hid bS2
      have HBX := Lib.hid bX2
      have HK2 := Lib.hid hKW2
      have m0 : W3.drew.cell? ⟨w.heap.size + 1 + 1, 0, none⟩ = some (.int .u64 (R : Int)) := bM2.cell 0
      have g0 : W3.drew.cell? ⟨w.heap.size, 0, none⟩ = some (.slice (some ⟨b, o, none⟩) t.length c) := bG2.cell 0
      have x0 : W3.drew.cell? ⟨B1, 0, none⟩ = some (.int .i64 (a : Int)) := bX2.cell 0
      have f0 := bM2.free 0
      have hra' : W3.drew.cell? ⟨b, o + a, none⟩ = some (.slice (some ⟨bb a, oo a, none⟩) t.length (C a)) := hra
      have hea' : W3.drew.cell? ⟨bb a, oo a + d, none⟩ = some (.int .i64 (z : Int)) := hea
      clear bM2 bG2 bS2 bX2 hKW2 hra hea
      gi_wp2_with fail
      refine Late.round (C := fun w' : World => w'.cell? ⟨w.heap.size + 1 + 1, 0, none⟩ = some (.int .u64 (R : Int)) ∧ w'.cell? ⟨w.heap.size, 0, none⟩ = some (.slice (some ⟨b, o, none⟩) t.length c) ∧ w'.cell? ⟨B1, 0, none⟩ = some (.int .i64 (a : Int)) ∧ w'.cell? ⟨b, o + a, none⟩ = some (.slice (some ⟨bb a, oo a, none⟩) t.length (C a)) ∧ w'.cell? ⟨bb a, oo a + d, none⟩ = some (.int .i64 (z : Int)))
        (fun j => j != 10) (by kernel_rfl) (by rfl) (by rintro ⟨_, _, h⟩; exact h) ⟨m0, g0, x0, hra', hea'⟩ ?_
      intro hS
      refine Late.take (i := 0) (oi := _) (v := ?_) rfl (by kernel_rfl) (by kernel_rfl) (by kernel_rfl) (by kernel_rfl) (fun _ _ _ h => h) (Or.inl ⟨by rfl, ?_⟩) hS ?_
      rotate_left
      · (intro w hSw; (try dsimp only at hSw); go_simp; first | done | with_reducible rfl)
      simp only [Act.put]
      refine Late.take (i := 1) (oi := _) (v := ?_) rfl (by kernel_rfl) (by kernel_rfl) (by kernel_rfl) (by kernel_rfl) (fun _ _ _ h => h) (Or.inl ⟨by rfl, ?_⟩) hS ?_
      rotate_left
      · (intro w hSw; (try dsimp only at hSw); go_simp; first | done | with_reducible rfl)
      simp only [Act.put]
      refine Late.take (i := 2) (oi := _) (v := ?_) rfl (by kernel_rfl) (by kernel_rfl) (by kernel_rfl) (by kernel_rfl) (fun _ _ _ h => h) (Or.inl ⟨by rfl, ?_⟩) hS ?_
      rotate_left
      · (intro w hSw; (try dsimp only at hSw); go_simp; first | done | with_reducible rfl)
      simp only [Act.put]
      refine Late.take (i := 3) (oi := _) (v := ?_) rfl (by kernel_rfl) (by kernel_rfl) (by kernel_rfl) (by kernel_rfl) (fun _ _ _ h => h) (Or.inl ⟨by rfl, ?_⟩) hS ?_
      rotate_left
      · (intro w hSw; (try dsimp only at hSw); go_simp; first | done | with_reducible rfl)
      simp only [Act.put]
      refine Late.take (i := 4) (oi := _) (v := ?_) rfl (by kernel_rfl) (by kernel_rfl) (by kernel_rfl) (by kernel_rfl) (fun _ _ _ h => h) (Or.inl ⟨by rfl, ?_⟩) hS ?_
      rotate_left
      · (intro w hSw; (try dsimp only at hSw); go_simp; first | done | with_reducible rfl)
      simp only [Act.put]
      refine Late.take (i := 5) (oi := _) (v := ?_) rfl (by kernel_rfl) (by kernel_rfl) (by kernel_rfl) (by kernel_rfl) (fun _ _ _ h => h) (Or.inl ⟨by rfl, ?_⟩) hS ?_
      rotate_left
      · (intro w hSw; (try dsimp only at hSw); go_simp; first | done | with_reducible rfl)
      simp only [Act.put]
      refine Late.take (i := 6) (oi := _) (v := ?_) rfl (by kernel_rfl) (by kernel_rfl) (by kernel_rfl) (by kernel_rfl) (fun _ _ _ h => h) (Or.inl ⟨by rfl, ?_⟩) hS ?_
      rotate_left
      · (intro w hSw; (try dsimp only at hSw); go_simp; first | done | with_reducible rfl)
      simp only [Act.put]
      refine Late.take (i := 7) (oi := _) (v := ?_) rfl (by kernel_rfl) (by kernel_rfl) (by kernel_rfl) (by kernel_rfl) (fun _ _ _ h => h) (Or.inl ⟨by rfl, ?_⟩) hS ?_
      rotate_left
      · (intro w hSw; (try dsimp only at hSw); go_simp; first | done | with_reducible rfl)
      simp only [Act.put]
      refine Late.take (i := 8) (oi := _) (v := ?_) rfl (by kernel_rfl) (by kernel_rfl) (by kernel_rfl) (by kernel_rfl) (fun _ _ _ h => h) (Or.inl ⟨by rfl, ?_⟩) hS ?_
      rotate_left
      · (intro w hSw; (try dsimp only at hSw); go_simp; first | done | with_reducible rfl)
      simp only [Act.put]
      refine Late.one (i := 9) (o := _) (by kernel_rfl) rfl (fun K' hK' => ?_)
      rw [if_pos (by rfl)]
      go_simp
      refine (with_any R z _ hRl hm8).mono ?_
      rintro e w' ⟨rfl, rfl⟩
      refine hK'.out _ _ (fun _ => hS) (fun _ => ?_)
      clear hK' K'
      refine Late.one (i := 10) (o := _) (by kernel_rfl) rfl (fun K' hK' => ?_)
      go_simp
      refine hK'.out _ _ (fun h => by cases h) (fun _ => ?_)
      clear hK' K'
      refine Late.done (by kernel_rfl) ?_ _
      exact ⟨((Keeps.refl _ W3).setCell (p := ⟨w.heap.size + 1 + 1, 0, none⟩) (by show w.heap.size ≤ w.heap.size + 1 + 1; omega) _).drewN 1, by show Has _ _ _ _; rw [HRN.out]; exact Has.drewN HBM.out.put1 1, Has.drewN (HBG.out.far (p := ⟨w.heap.size + 1 + 1, 0, none⟩) (by show w.heap.size ≠ w.heap.size + 1 + 1; omega) _) 1,
        Has.drewN (HBS.out.far (p := ⟨w.heap.size + 1 + 1, 0, none⟩) (by show w.heap.size + 1 ≠ w.heap.size + 1 + 1; omega) _) 1, Has.drewN (HBX.out.far (p := ⟨w.heap.size + 1 + 1, 0, none⟩) (by show B1 ≠ w.heap.size + 1 + 1; have := HBB.out; omega) _) 1⟩
  case done =>
    rintro D xs W hD hxs ⟨bM, _⟩ hKW hK
    rw [hxs] at bM
    have hm := bM.cell 0
    have HKW := Lib.hid hKW
    clear hKW bM
    gi_wp2
    refine ⟨by simp, .inl ⟨_, _, rfl, run_takeDeferred hK, ?_⟩⟩
    exact ⟨_, results_tmp rfl _ _ _, rfl, ((Ex.below e0).trans HKW.out.1).trans (belowK_b (w := w) (Nat.le_refl _) W D _ _ (by omega) hK rfl rfl)⟩
  case stop =>
    rintro D c' pre W hD hpre h
    exact h.elim

set_option maxRecDepth 100000 in
set_option maxHeartbeats 1000000 in
theorem subgroupMadeBy_any (A : Option Addr) (t : List (List Int)) (c s : Nat) (w : World) (hR : RwsW w A t) (hg : IsGrp t) (hs : s < 2 ^ t.length) (hT : TabL w) :
    Calls Tryd.prog 155 #[.agg #[.slice A t.length c], .int .u64 (s : Int)] w fun e w' => e = .returned (.int .u64 (clo t (s ||| 1) : Int)) ∧ Ex w w' := by
  have e0 : Ex w (w.alloc (.cells #[.slice A t.length c] 27)) := (Ex.refl w).alloc _
  have b0 : Has (w.alloc (.cells #[.slice A t.length c] 27)) (w.heap.size) 27 #[.slice A t.length c] := (Has.newAt (w := w) (e := 27) (cs := #[.slice A t.length c]) (k := w.heap.size) (by simp))
  have hn8 := hg.n8
  have h1 : s ||| 1 < 2 ^ t.length := or_lt (x := 0) hs hg.n1
  have HWI := Lib.hid (show Calls Tryd.prog 156 #[.int .u64 (s : Int), .int .i64 0] _ _ from with_any s 0 (w.alloc (.cells #[.slice A t.length c] 27)) (lt256 hn8 hs) (by omega))
  have HWP := Lib.hid (fun W (he : Ex (w.alloc (.cells #[.slice A t.length c] 27)) W) u (hu : u < 2 ^ t.length) => withProducts_any A t c u W (hR.ex (e0.trans he)) hg hu (hT.ex (e0.trans he)))
  have HG := Lib.hid hg
  have HE0 := Lib.hid e0
  have HB0 := Lib.hid b0
  obtain ⟨s1, hs1⟩ : ∃ s1, s ||| 1 = s1 := ⟨_, rfl⟩
  rw [show s ||| 2 ^ 0 = s1 from hs1] at HWI
  rw [hs1] at h1 ⊢
  have H1 := Lib.hid h1
  clear hR hg hs hT hs1 h1 e0 b0
  go_enter Tryd.func155, Tryd.ntmps155
  go_wp2_with fail
  generalize (w.alloc (.cells #[.slice A t.length c] 27)) = W0 at *
  refine HWI.out.mono ?_
  rintro e w' ⟨rfl, rfl⟩
  clear HWI
  go_wp2_with fail
  go_loopw [1] (fun v wr => ∃ k : Nat, v = .int .u64 (itS t s1 k : Int) ∧ Hid (Ex W0 wr)) (fun v _ => 256 - (intOf v).toNat)
  case atStart => exact ⟨0, rfl, Lib.hid (Ex.refl _)⟩
  case round =>
    obtain ⟨k, rfl, HE⟩ := hrel
    have hlt := itS_lt HG.out H1.out k
    have HST : Hid (itS t s1 (k + 1) = stp t (itS t s1 k)) := Lib.hid rfl
    have hge := stp_ge (t := t) (itS t s1 k)
    have hlt2 := lt256 hn8 (stp_lt HG.out hlt)
    have HW := Lib.hid (HWP.out wr HE.out _ hlt)
    have HCA := Lib.hid (clo_at (t := t) (s := s1) (k := k))
    obtain ⟨u, hu⟩ : ∃ u, itS t s1 k = u := ⟨_, rfl⟩
    rw [hu] at HST hge hlt2 HW HCA ⊢
    clear hu hlt
    obtain ⟨S, hS⟩ : ∃ S, stp t u = S := ⟨_, rfl⟩
    rw [hS] at HST hge hlt2 HW HCA
    clear hS
    have c0 := (HB0.out.ex HE.out).cell 0
    by_cases hq : S = u
    · subst hq
      have HC2 := Lib.hid (HCA.out rfl)
      clear HCA
      have hqq : ((S : Int) == (S : Int)) = true := by simp
      go_wp2_with fail
      refine HW.out.mono ?_
      rintro e W2 ⟨rfl, he2⟩
      have HE2 := Lib.hid (HE.out.trans he2)
      clear he2
      go_wp2_with fail
      go_ret
      exact ⟨by rw [HC2.out]; rfl, HE0.out.trans HE2.out⟩
    · have hqq : ((S : Int) == (u : Int)) = false := by simp; omega
      have hgt : u < S := by omega
      clear hq
      go_wp2_with fail
      refine HW.out.mono ?_
      rintro e W2 ⟨rfl, he2⟩
      have HE2 := Lib.hid (HE.out.trans he2)
      clear he2
      go_wp2_with fail
      go_roundw
      case rel => exact ⟨k + 1, by rw [HST.out], HE2⟩
      case measure => simp [intOf]; omega

end Go.Proofs.YtalejhbdbclfaaaDoor
