/- The program's test for brackets: three loops in one another. -/
import Derived.Test.YtdehalkebneaoaaDoorIt
import Derived.Test.YtdehalkebneaoaaDoorRng
import Derived.Test.YtdehalkebneaoaaDoorGrp
namespace Go.Proofs.YtdehalkebneaoaaDoor
open Go.RowKit Go.Shelf

attribute [local go_sem] Oper.semAt_some

/-- Do the products of three elements not depend on brackets? -/
def AssocAt (t : List (List Int)) (a b c : Nat) : Prop := nth (row t (nth (row t a) b).toNat) c = nth (row t a) (nth (row t b) c).toNat
theorem assocB_true {t : List (List Int)} (h : ∀ x y z : Fin t.length, AssocAt t x.val y.val z.val) : assocB t = true := by
  simp only [assocB, decide_eq_true_eq]
  exact fun a ha b hb c hc => h ⟨a, ha⟩ ⟨b, hb⟩ ⟨c, hc⟩
theorem assocB_false {t : List (List Int)} (h : ∃ x y z : Fin t.length, ¬ AssocAt t x.val y.val z.val) : assocB t = false := by
  simp only [assocB, decide_eq_false_iff_not]
  obtain ⟨x, y, z, hx⟩ := h
  exact fun hk => hx (hk x.val x.isLt y.val y.isLt z.val z.isLt)

set_option maxRecDepth 100000 in
set_option maxHeartbeats 2000000 in
theorem ignoresBrackets_any (t : List (List Int)) (c B b o : Nat) (bb oo C : Nat → Nat) (w : World) (hQ : SqT w B b o bb oo C t) (hB : B ≤ w.heap.size) (hI : IsTab t) :
    Calls Tryd.prog 119 #[.agg #[.slice (some ⟨b, o, none⟩) t.length c]] w fun e w' => e = .returned (.bool (assocB t)) ∧ Below w.heap.size w w' := by
  have hn1 := hI.n1
  have hn8 := hI.n8
  have HI := Lib.hid hI
  have HQ := Lib.hid hQ
  clear hI hQ
  refine (callsIn_wide (n := 20)).1 ?_
  refine callsIn_of_wp_marks Tryd.func119 rfl trivial ?_ rfl
  simp only [Tryd.ntmps119, List.size_toArray, List.length_cons, List.length_nil, Nat.reduceAdd, Nat.reduceSub, Array.replicate_succ, Array.replicate_zero, List.push_toArray, List.append_toArray, List.nil_append, List.cons_append]
  gi_wp2_with (refine ⟨trivial, ?_⟩; gi_at_call 101; refine (callsIn_wide.2 (elementsOf_any _ t.length c _)).mono ?_; rintro e w' ⟨rfl, rfl⟩)
  have bG := ((Boxed.new w 29 (.slice (some ⟨b, o, none⟩) t.length c)).alloc (.cells #[.bool false] 4)).alloc (.cells #[.slice (some ⟨b, o, none⟩) t.length c] 29)
  have bR := (Boxed.new (w.alloc (.cells #[.slice (some ⟨b, o, none⟩) t.length c] 29)) 4 (.bool false)).alloc (.cells #[.slice (some ⟨b, o, none⟩) t.length c] 29)
  have bE := Boxed.new ((w.alloc (.cells #[.slice (some ⟨b, o, none⟩) t.length c] 29)).alloc (.cells #[.bool false] 4)) 29 (.slice (some ⟨b, o, none⟩) t.length c)
  have hB0 : Below w.heap.size w (((w.alloc (.cells #[.slice (some ⟨b, o, none⟩) t.length c] 29)).alloc (.cells #[.bool false] 4)).alloc (.cells #[.slice (some ⟨b, o, none⟩) t.length c] 29)) :=
    (((Below.refl _ w).alloc (Nat.le_refl _) _).alloc (by simp) _).alloc (by simp; omega) _
  have hsz : (((w.alloc (.cells #[.slice (some ⟨b, o, none⟩) t.length c] 29)).alloc (.cells #[.bool false] 4)).alloc (.cells #[.slice (some ⟨b, o, none⟩) t.length c] 29)).heap.size = w.heap.size + 1 + 1 + 1 := by simp
  simp only [World.size_alloc] at bR bE
  obtain ⟨W0, hW0⟩ : ∃ W0, ((w.alloc (.cells #[.slice (some ⟨b, o, none⟩) t.length c] 29)).alloc (.cells #[.bool false] 4)).alloc (.cells #[.slice (some ⟨b, o, none⟩) t.length c] 29) = W0 := ⟨_, rfl⟩
  rw [hW0] at bG bR bE hB0 hsz ⊢
  clear hW0
  have HB0 := Lib.hid hB0
  have HSZ := Lib.hid hsz
  refine range_topB (n := 20) (n₀ := w.heap.size) (by omega) (gf := 147) (lb := #[.pointer (some ⟨w.heap.size + 1 + 1, 0, none⟩)]) rfl (enters_of Tryd.func147 (by kernel_rfl) rfl)
    (elements_stops 19 (by omega) (w.heap.size + 1 + 1) w.heap.size t.length c _ W0 (by omega) bE.cell (by omega)) (by omega) (fun _ => rfl) 2 (fun x => .int .i64 (x.val : Int))
    (fun pre W => ((∀ x ∈ pre, ∀ y z : Fin t.length, AssocAt t x.val y.val z.val) ∧ Boxed W (w.heap.size + 1) 4 (.bool false)) ∧ Boxed W w.heap.size 29 (.slice (some ⟨b, o, none⟩) t.length c))
    (fun c' _ W => (c' = .ret ∧ ∃ x y z : Fin t.length, ¬ AssocAt t x.val y.val z.val) ∧ Boxed W (w.heap.size + 1) 4 (.bool false))
    (OwnFrom.and (OwnFrom.and (ownFrom_pure _ _) (Own.from (boxed_own _ _ _) _)) (Own.from (boxed_own _ _ _) _))
    (fun _ => OwnFrom.and (ownFrom_pure _ _) (Own.from (boxed_own _ _ _) _))
    ⟨⟨by simp, bR⟩, bG⟩ ?round ?done ?stop
  case round =>
    clear bG bR bE hB0 hsz
    intro l x W K hK
    have HK := Lib.hid hK
    clear hK
    gi_wp2
    refine HK.out _ ?_
    clear HK
    rintro l B1 pre W1 hB1 hle1 hr ⟨⟨hp, bR1⟩, bG1⟩ hKW bX1 _
    rw [hB1]
    clear hB1
    obtain ⟨k, hk⟩ := x
    dsimp only at bX1
    have HKW := Lib.hid hKW
    have HP := Lib.hid hp
    have HR := Lib.hid hr
    have HLE := Lib.hid hle1
    clear hKW hp hr hle1
    have hbox := bG1.cell
    gi_wp2_with (refine ⟨trivial, ?_⟩; gi_at_call 101; refine (CallsIn.inRound l (callsIn_wide.2 (elementsOf_any _ t.length c _))).mono ?_; rintro e w' ⟨rfl, rfl⟩)
    clear hbox
    have bGA := bG1.alloc (.cells #[.slice (some ⟨b, o, none⟩) t.length c] 29)
    have bRA := bR1.alloc (.cells #[.slice (some ⟨b, o, none⟩) t.length c] 29)
    have bXA := bX1.alloc (.cells #[.slice (some ⟨b, o, none⟩) t.length c] 29)
    have bEA := Boxed.new W1 29 (.slice (some ⟨b, o, none⟩) t.length c)
    have hK1 : Keeps w.heap.size W1 (W1.alloc (.cells #[.slice (some ⟨b, o, none⟩) t.length c] 29)) := (Keeps.refl _ _).alloc (by have := bG1.lt; omega) _
    have hszA : (W1.alloc (.cells #[.slice (some ⟨b, o, none⟩) t.length c] 29)).heap.size = W1.heap.size + 1 := by simp
    have hrA : ∃ r, (W1.alloc (.cells #[.slice (some ⟨b, o, none⟩) t.length c] 29)).heap[l]? = some (.loop r) := by
      obtain ⟨r, hr⟩ := HR.out
      exact ⟨r, (Below.heap_alloc W1 _ l (Array.getElem?_eq_some_iff.1 hr).1).trans hr⟩
    have hltG := bG1.lt
    have hltX := bX1.lt
    clear bG1 bR1 bX1
    obtain ⟨W2, hW2⟩ : ∃ W2, W1.alloc (.cells #[.slice (some ⟨b, o, none⟩) t.length c] 29) = W2 := ⟨_, rfl⟩
    rw [hW2] at bGA bRA bXA bEA hK1 hszA hrA ⊢
    clear hW2
    have HK1 := Lib.hid hK1
    have HSA := Lib.hid hszA
    refine range_inB (n := 20 - 1 - 1) (n₀ := w.heap.size) (by omega) hrA (gf := 147) (lb := #[.pointer (some ⟨W1.heap.size, 0, none⟩)]) rfl (enters_of Tryd.func147 (by kernel_rfl) rfl)
      (elements_stops (20 - 1 - 1 - 1) (by omega) W1.heap.size w.heap.size t.length c _ W2 (by omega) bEA.cell (by omega)) (by omega) (fun _ => rfl) 2 (fun x => .int .i64 (x.val : Int))
      (fun pre W => (((∀ y ∈ pre, ∀ z : Fin t.length, AssocAt t k y.val z.val) ∧ Boxed W (w.heap.size + 1) 4 (.bool false)) ∧ Boxed W w.heap.size 29 (.slice (some ⟨b, o, none⟩) t.length c)) ∧ Boxed W B1 2 (.int .i64 (k : Int)))
      (fun c' _ W => (c' = .ret ∧ ∃ x y z : Fin t.length, ¬ AssocAt t x.val y.val z.val) ∧ Boxed W (w.heap.size + 1) 4 (.bool false))
      (OwnFrom.and (OwnFrom.and (OwnFrom.and (ownFrom_pure _ _) (Own.from (boxed_own _ _ _) _)) (Own.from (boxed_own _ _ _) _)) (Own.from (boxed_own _ _ _) _))
      (fun _ => OwnFrom.and (ownFrom_pure _ _) (Own.from (boxed_own _ _ _) _))
      ⟨⟨⟨by simp, bRA⟩, bGA⟩, bXA⟩ ?round2 ?done2 ?stop2
    case done2 =>
      rintro ys W rfl ⟨⟨⟨hq, bR2⟩, bG2⟩, _⟩ hKW2
      have HQQ := Lib.hid hq
      have HKW2 := Lib.hid hKW2
      clear hq hKW2
      gi_wp2
      exact ⟨HK1.out.trans HKW2.out, ⟨fun y hy => (List.mem_append.1 hy).elim (HP.out y) (fun e => by simp at e; subst e; exact fun y z => HQQ.out y (List.mem_finRange y) z), bR2⟩, bG2⟩
    case stop2 =>
      rintro c' pre' W hpre ⟨⟨rfl, hx⟩, bR2⟩ hKW2
      have HX := Lib.hid hx
      have HKW2 := Lib.hid hKW2
      clear hx hKW2
      gi_wp2
      exact ⟨HK1.out.trans HKW2.out, ⟨rfl, HX.out⟩, bR2⟩
    case round2 =>
      clear bGA bRA bXA bEA hK1 hszA hrA
      intro l2 y W K hK
      have HK := Lib.hid hK
      clear hK
      gi_wp2
      refine HK.out _ ?_
      clear HK
      rintro l2 B2 pre2 W3 hB2 hle2 hr2 ⟨⟨⟨hp2, bR2⟩, bG2⟩, bX2⟩ hKW2 bY2 _
      rw [hB2]
      clear hB2
      obtain ⟨j, hj⟩ := y
      dsimp only at bY2
      have HKW2 := Lib.hid hKW2
      have HP2 := Lib.hid hp2
      have HR2 := Lib.hid hr2
      have HLE2 := Lib.hid hle2
      clear hKW2 hp2 hr2 hle2
      have hbox := bG2.cell
      gi_wp2_with (refine ⟨trivial, ?_⟩; gi_at_call 101; refine (CallsIn.inRound l2 (callsIn_wide.2 (elementsOf_any _ t.length c _))).mono ?_; rintro e w' ⟨rfl, rfl⟩)
      clear hbox
      have bGB := bG2.alloc (.cells #[.slice (some ⟨b, o, none⟩) t.length c] 29)
      have bRB := bR2.alloc (.cells #[.slice (some ⟨b, o, none⟩) t.length c] 29)
      have bXB := bX2.alloc (.cells #[.slice (some ⟨b, o, none⟩) t.length c] 29)
      have bYB := bY2.alloc (.cells #[.slice (some ⟨b, o, none⟩) t.length c] 29)
      have bEB := Boxed.new W3 29 (.slice (some ⟨b, o, none⟩) t.length c)
      have hK2 : Keeps w.heap.size W3 (W3.alloc (.cells #[.slice (some ⟨b, o, none⟩) t.length c] 29)) := (Keeps.refl _ _).alloc (by have := bG2.lt; omega) _
      have hszB : (W3.alloc (.cells #[.slice (some ⟨b, o, none⟩) t.length c] 29)).heap.size = W3.heap.size + 1 := by simp
      have hrB : ∃ r, (W3.alloc (.cells #[.slice (some ⟨b, o, none⟩) t.length c] 29)).heap[l2]? = some (.loop r) := by
        obtain ⟨r, hr⟩ := HR2.out
        exact ⟨r, (Below.heap_alloc W3 _ l2 (Array.getElem?_eq_some_iff.1 hr).1).trans hr⟩
      have hltG2 := bG2.lt
      clear bG2 bR2 bX2 bY2
      obtain ⟨W4, hW4⟩ : ∃ W4, W3.alloc (.cells #[.slice (some ⟨b, o, none⟩) t.length c] 29) = W4 := ⟨_, rfl⟩
      rw [hW4] at bGB bRB bXB bYB bEB hK2 hszB hrB ⊢
      clear hW4
      have HK2 := Lib.hid hK2
      have HSB := Lib.hid hszB
      refine range_in (n := 20 - 1 - 1 - 1 - 1) (n₀ := w.heap.size) (by omega) hrB (gf := 147) (lb := #[.pointer (some ⟨W3.heap.size, 0, none⟩)]) rfl (enters_of Tryd.func147 (by kernel_rfl) rfl)
        (elements_stops (20 - 1 - 1 - 1 - 1 - 1) (by omega) W3.heap.size w.heap.size t.length c _ W4 (by omega) bEB.cell (by omega)) (by omega) (fun _ => rfl)
        (fun pre W => ((((∀ z ∈ pre, AssocAt t k j z.val) ∧ Boxed W (w.heap.size + 1) 4 (.bool false)) ∧ Boxed W w.heap.size 29 (.slice (some ⟨b, o, none⟩) t.length c)) ∧ Boxed W B1 2 (.int .i64 (k : Int))) ∧ Boxed W B2 2 (.int .i64 (j : Int)))
        (fun c' _ W => (c' = .ret ∧ ∃ x y z : Fin t.length, ¬ AssocAt t x.val y.val z.val) ∧ Boxed W (w.heap.size + 1) 4 (.bool false))
        (OwnFrom.and (OwnFrom.and (OwnFrom.and (OwnFrom.and (ownFrom_pure _ _) (Own.from (boxed_own _ _ _) _)) (Own.from (boxed_own _ _ _) _)) (Own.from (boxed_own _ _ _) _)) (Own.from (boxed_own _ _ _) _))
        (fun _ => OwnFrom.and (ownFrom_pure _ _) (Own.from (boxed_own _ _ _) _))
        ⟨⟨⟨⟨by simp, bRB⟩, bGB⟩, bXB⟩, bYB⟩ ?round3 ?done3 ?stop3
      case done3 =>
        rintro zs W rfl ⟨⟨⟨⟨hq, bR3⟩, bG3⟩, bX3⟩, _⟩ hKW3
        have HQQ := Lib.hid hq
        have HKW3 := Lib.hid hKW3
        clear hq hKW3
        gi_wp2
        exact ⟨HK2.out.trans HKW3.out, ⟨⟨fun y hy => (List.mem_append.1 hy).elim (HP2.out y) (fun e => by simp at e; subst e; exact fun z => HQQ.out z (List.mem_finRange z)), bR3⟩, bG3⟩, bX3⟩
      case stop3 =>
        rintro c' pre' W hpre ⟨⟨rfl, hx⟩, bR3⟩ hKW3
        have HX := Lib.hid hx
        have HKW3 := Lib.hid hKW3
        clear hx hKW3
        gi_wp2
        exact ⟨HK2.out.trans HKW3.out, ⟨rfl, HX.out⟩, bR3⟩
      case round3 =>
        clear bGB bRB bXB bYB bEB hK2 hszB hrB
        intro l3 z W K hK
        have HK := Lib.hid hK
        clear hK
        gi_wp2
        refine HK.out _ ?_
        clear HK
        rintro l3 pre3 W5 hr3 ⟨⟨⟨⟨hp3, bR3⟩, bG3⟩, bX3⟩, bY3⟩ hKW3 _
        obtain ⟨i, hi⟩ := z
        have hQ := (HQ.out.below HB0.out hB).below (((HKW.out.trans HK1.out).trans (HKW2.out.trans HK2.out)).trans hKW3).1 hB
        have hbox := bG3.cell
        have hres := bR3.cell
        have hfre := bR3.frozen
        have hx := bX3.cell
        have hy := bY3.cell
        have hrk := hQ.row_ hk
        have hrj := hQ.row_ hj
        obtain ⟨m1, hm1, HM1, hekj⟩ := hQ.idx hk hj (HI.out.rng k hk j hj)
        obtain ⟨m2, hm2, HM2, heji⟩ := hQ.idx hj hi (HI.out.rng j hj i hi)
        have hrm := hQ.row_ hm1
        have hemi := hQ.ent_ hm1 hi
        have hekm := hQ.ent_ hk hm2
        have HP3 := Lib.hid hp3
        have HBR := Lib.hid bR3
        have HBG := Lib.hid bG3
        have HBX := Lib.hid bX3
        have HBY := Lib.hid bY3
        clear hQ hp3 bR3 bG3 bX3 bY3 hKW3 hr3
        by_cases hq : nth (row t m1) i = nth (row t k) m2
        · have hq' : (nth (row t m1) i != nth (row t k) m2) = false := by simp [hq]
          have HQQ := Lib.hid hq
          clear hq
          gi_wp2
          refine region_quiet_round (by kernel_rfl) (by kernel_rfl) (by kernel_rfl) ?_
          repeat (gi_big_quiet_step (fail))
          refine wpQuietIn_nil ?_
          intro _ hw'
          obtain ⟨nq, hw''⟩ := hw'
          subst hw''
          gi_wp2
          exact ⟨(Keeps.refl _ _).drewN _, ⟨⟨⟨fun y hy => (List.mem_append.1 hy).elim (HP3.out y) (fun e => by simp at e; subst e; show nth (row t (nth (row t k) j).toNat) i = nth (row t k) (nth (row t j) i).toNat; rw [HM1.out, HM2.out]; exact HQQ.out), HBR.out⟩, HBG.out⟩, HBX.out⟩, HBY.out⟩
        · have hq' : (nth (row t m1) i != nth (row t k) m2) = true := by simp [hq]
          have HQQ := Lib.hid hq
          clear hq
          gi_wp2
          refine region_quiet_round (by kernel_rfl) (by kernel_rfl) (by kernel_rfl) ?_
          repeat (gi_big_quiet_step (fail))
          refine wpQuietIn_nil ?_
          intro _ hw'
          obtain ⟨nq, hw''⟩ := hw'
          subst hw''
          gi_wp2
          have hbr : Boxed (W5.drewN nq) (w.heap.size + 1) 4 (.bool false) := HBR.out
          exact ⟨((Keeps.refl _ _).drewN _).setCell (p := ⟨w.heap.size + 1, 0, none⟩) (by simp) _, ⟨rfl, ⟨k, hk⟩, ⟨j, hj⟩, ⟨i, hi⟩, fun h => by
            unfold AssocAt at h
            dsimp only at h
            rw [HM1.out, HM2.out] at h
            exact HQQ.out h⟩, hbr.set _⟩
  case done =>
    rintro D xs W hD rfl ⟨⟨hp, bR1⟩, _⟩ hKW hK
    have hres := bR1.cell
    have hfre := bR1.frozen
    have HP := Lib.hid hp
    have HKW := Lib.hid hKW
    clear hp hKW
    gi_wp2
    have hK' := (KeepsOthers.setCell W ⟨w.heap.size + 1, 0, none⟩ (.bool true)).same D _ hK rfl
    refine ⟨by simp, .inl ⟨_, _, rfl, run_takeDeferred hK', ?_⟩⟩
    have hc5 := cell_kept (bR1.set (.bool true)).cell (grownBy_putObj' _ D (.deferred none)) (fun r e => by cases e; exact ⟨_, hK', rfl⟩)
    refine ⟨.bool true, ?_, by rw [assocB_true (fun x => HP.out x (List.mem_finRange x))], ((hB0.trans HKW.out.1).setCell (p := ⟨w.heap.size + 1, 0, none⟩) (by simp) _).trans (belowK_b (w := w) (Nat.le_refl _) _ D _ _ (by omega) hK' rfl rfl)⟩
    simp [results, Tryd.f119, go_sem, hc5]
  case stop =>
    rintro D c' pre W hD hpre ⟨⟨rfl, hx⟩, bR1⟩ hKW hK
    have HX := Lib.hid hx
    have HKW := Lib.hid hKW
    clear hx hKW
    gi_wp2
    refine ⟨by simp, .inl ⟨_, _, rfl, run_takeDeferred hK, ?_⟩⟩
    have hc5 := cell_kept bR1.cell (grownBy_putObj' _ D (.deferred none)) (fun r e => by cases e; exact ⟨_, hK, rfl⟩)
    refine ⟨.bool false, ?_, by rw [assocB_false HX.out], (hB0.trans HKW.out.1).trans (belowK_b (w := w) (Nat.le_refl _) W D _ _ (by omega) hK rfl rfl)⟩
    simp [results, Tryd.f119, go_sem, hc5]

end Go.Proofs.YtdehalkebneaoaaDoor
